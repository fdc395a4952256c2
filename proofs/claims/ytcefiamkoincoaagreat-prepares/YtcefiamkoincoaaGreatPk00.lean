/- a part of the proof -/
import Derived.Test.YtcefiamkoincoaaGreatRows
import Derived.WalkKit
import Derived.WalkSpells
import Derived.WalkLawsBesides
import Derived.Deep.QuietTactic
import Derived.BigQuiet
set_option maxRecDepth 100000
set_option maxHeartbeats 40000000
set_option linter.unusedVariables false
set_option linter.unusedSimpArgs false
namespace Go.Proofs.YtcefiamkoincoaaGreat.Rd
structure St where
 pos:Nat
 bad:Bool
def nx (s:List UInt8) (t:St):Int × St :=
 if t.bad=true then (0,⟨t.pos,true⟩)
 else if s.length≤t.pos then (0,⟨t.pos,true⟩)
 else (((s[t.pos]?.getD 0).toNat:Int),⟨t.pos+1,false⟩)
def ex (s:List UInt8) (b:Int) (t:St):St :=
 if (nx s t).1=b then (nx s t).2 else ⟨(nx s t).2.pos,true⟩
def cn (s:List UInt8) (least most:Int) (t:St):Int × St :=
 if (nx s t).1<least then (0,⟨(nx s t).2.pos,true⟩)
 else if most<(nx s t).1 then (0,⟨(nx s t).2.pos,true⟩)
 else nx s t
def ty (s:List UInt8) (t:St):(Int × Int) × St :=
 (((nx s t).1,(nx s (nx s t).2).1),(nx s (nx s t).2).2)
def rep {α:Type} (f:St→α × St):Nat→St→List α × St
 | 0,t=>([],t)
 | k+1,t=>((rep f k t).1++[(f (rep f k t).2).1],(f (rep f k t).2).2)
theorem rep_len {α:Type} (f:St→α × St) (n:Nat) (t:St):(rep f n t).1.length=n:=by
 induction n with
 | zero=>rfl
 | succ k ih=>simp[rep,ih]
def tys (s:List UInt8) (n:Nat) (t:St):List (Int × Int) × St:=rep (ty s) n t
structure Cls where
 above:Int
 fields:List (Int × Int)
def cls (s:List UInt8) (t:St):Cls × St :=
 let a:=nx s t
 let n:=cn s 0 4 a.2
 let l:=tys s n.1.toNat n.2
 (⟨a.1,l.1⟩,l.2)
def codes (s:List UInt8) (t:St):List Int × St :=
 let n:=cn s 1 120 t
 rep (nx s) n.1.toNat n.2
structure Hnd where
 frm:Int
 til:Int
 target:Int
 cl:Int
def hnd (s:List UInt8) (t:St):Hnd × St :=
 let a:=nx s t
 let b:=nx s a.2
 let c:=nx s b.2
 let d:=nx s c.2
 (⟨a.1,b.1,c.1,d.1⟩,d.2)
def hnds (s:List UInt8) (t:St):List Hnd × St :=
 let n:=cn s 0 4 t
 rep (hnd s) n.1.toNat n.2
structure Mp where
 place:Int
 locals:List (Int × Int)
 stack:List (Int × Int)
def mp (s:List UInt8) (locals stack:Int) (t:St):Mp × St :=
 let a:=nx s t
 let l:=tys s locals.toNat a.2
 let h:=cn s 0 stack l.2
 let k:=tys s h.1.toNat h.2
 (⟨a.1,l.1,k.1⟩,k.2)
def mps (s:List UInt8) (locals stack:Int) (t:St):List Mp × St :=
 let n:=cn s 0 64 t
 rep (mp s locals stack) n.1.toNat n.2
structure Mth where
 cl:Int
 name:Int
 params:List (Int × Int)
 result:Int × Int
 locals:Int
 stack:Int
 code:List Int
 handlers:List Hnd
 maps:List Mp
def mth (s:List UInt8) (t:St):Mth × St :=
 let a:=nx s t
 let b:=nx s a.2
 let p:=cn s 0 4 b.2
 let ps:=tys s p.1.toNat p.2
 let r:=ty s ps.2
 let l:=cn s 0 8 r.2
 let h:=cn s 0 8 l.2
 let c:=codes s h.2
 let hs:=hnds s c.2
 let ms:=mps s l.1 h.1 hs.2
 (⟨a.1,b.1,ps.1,r.1,l.1,h.1,c.1,hs.1,ms.1⟩,ms.2)
structure Fil where
 classes:List Cls
 methods:List Mth
def fil (s:List UInt8) (t:St):Fil × St :=
 let a:=ex s 83 t
 let b:=ex s 77 a
 let n:=cn s 0 6 b
 let cs:=rep (cls s) n.1.toNat n.2
 let m:=cn s 1 6 cs.2
 let ms:=rep (mth s) m.1.toNat m.2
 (⟨cs.1,ms.1⟩,ms.2)
theorem nx_bd (s:List UInt8) (t:St):0≤(nx s t).1∧(nx s t).1≤255:=by
 unfold nx
 split
 ·simp
 ·split
  ·simp
  ·have:=(s[t.pos]?.getD 0).toNat_lt
   constructor<;>simp<;>omega
theorem cn_bd (s:List UInt8) (a b:Int) (t:St) (h1:0≤b):0≤(cn s a b t).1∧(cn s a b t).1≤b:=by
 have:=nx_bd s t;unfold cn
 split
 ·simp[h1]
 ·split
  ·simp[h1]
  ·constructor<;>omega
end Go.Proofs.YtcefiamkoincoaaGreat.Rd
namespace Go.Proofs.YtcefiamkoincoaaGreat
open Go.RowKit
abbrev O0(a0:ByteArray)(a1:Int)(a2:Bool):Obj:=.cells #[.string a0,.int .i64 a1,.bool a2] 139
abbrev O1(a0:Option Addr)(a1 a2:Nat)(a3:Option Addr)(a4 a5:Nat):Obj:=.cells #[.slice a0 a1 a2,.slice a3 a4 a5] 63
abbrev O2(a0:Option Addr)(a1 a2:Nat)(a3:Option Addr)(a4 a5:Nat):Obj:=.cells #[.slice a0 a1 a2,.slice a3 a4 a5] 89
abbrev O3(a0:Option Addr)(a1 a2:Nat)(a3:Option Addr)(a4 a5:Nat)(a6:Option Addr)(a7 a8:Nat)(a9:Option Addr)(a10 a11:Nat)(a12:Option Addr)(a13 a14:Nat)(a15:Option Addr)(a16 a17:Nat)(a18:Option Addr)(a19 a20:Nat):Obj:=.cells #[.slice a0 a1 a2,.slice a3 a4 a5,.slice a6 a7 a8,.slice a9 a10 a11,.slice a12 a13 a14,.slice a15 a16 a17,.slice a18 a19 a20] 48
abbrev O4(a0:Int):Obj:=.cells #[.int .i64 a0] 3
abbrev O5(a0:Int)(a1:Option Addr)(a2 a3:Nat):Obj:=.cells #[.int .i64 a0,.slice a1 a2 a3] 102
abbrev O6(a0:Option Addr)(a1 a2:Nat):Obj:=.cells #[.slice a0 a1 a2] 48
abbrev O7(a0 a1:Int):Obj:=.cells #[.int .i64 a0,.int .i64 a1] 39
abbrev O8(a0 a1 a2:Int):Obj:=.cells #[.int .i64 a0,.int .i64 a1,.int .i64 a2] 65
abbrev O9(a0:Int)(a1:Option Addr)(a2 a3:Nat)(a4:Option Addr)(a5 a6:Nat):Obj:=.cells #[.int .i64 a0,.slice a1 a2 a3,.slice a4 a5 a6] 82
abbrev O10(a0:Int)(a1:Option Addr)(a2 a3:Nat):Obj:=.cells #[.int .i64 a0,.slice a1 a2 a3] 167
abbrev O11(a0:Option Addr)(a1 a2:Nat)(a3:Option Addr)(a4 a5:Nat):Obj:=.cells #[.slice a0 a1 a2,.slice a3 a4 a5] 44
abbrev O12(a0 a1 a2 a3 a4 a5:Int):Obj:=.cells #[.int .i64 a0,.int .i64 a1,.int .i64 a2,.int .i64 a3,.int .i64 a4,.int .i64 a5] 39
abbrev O13(a0:Option Addr)(a1 a2:Nat):Obj:=.cells #[.slice a0 a1 a2] 56
abbrev O14(a0 a1:Int)(a2:Option Addr)(a3 a4:Nat)(a5 a6 a7 a8:Int)(a9:ByteArray)(a10:Option Addr)(a11 a12:Nat)(a13:Option Addr)(a14 a15:Nat)(a16 a17:Int):Obj:=.cells #[.int .i64 a0,.int .i64 a1,.slice a2 a3 a4,.int .i64 a5,.int .i64 a6,.int .i64 a7,.int .i64 a8,.string a9,.slice a10 a11 a12,.slice a13 a14 a15,.int .i64 a16,.int .i64 a17] 52
abbrev O15(a0 a1 a2 a3:Int):Obj:=.cells #[.int .i64 a0,.int .i64 a1,.int .i64 a2,.int .i64 a3] 231
abbrev O16(a0 a1 a2 a3:Int):Obj:=.cells #[.int .i64 a0,.int .i64 a1,.int .i64 a2,.int .i64 a3] 116
abbrev O17(a0 a1 a2:Int):Obj:=.cells #[.int .i64 a0,.int .i64 a1,.int .i64 a2] 204
abbrev O18(a0:Option Addr)(a1 a2:Nat)(a3:Option Addr)(a4 a5:Nat)(a6:Option Addr)(a7 a8:Nat)(a9:Option Addr)(a10 a11:Nat)(a12 a13:Int)(a14:Option Addr)(a15 a16:Nat)(a17 a18 a19 a20:Int)(a21:Option Addr)(a22 a23:Nat)(a24:Option Addr)(a25 a26:Nat)(a27:Option Addr)(a28 a29:Nat)(a30:Option Addr)(a31 a32:Nat):Obj:=.cells #[.slice a0 a1 a2,.slice a3 a4 a5,.slice a6 a7 a8,.slice a9 a10 a11,.int .i64 a12,.int .i64 a13,.slice a14 a15 a16,.int .i64 a17,.int .i64 a18,.int .i64 a19,.int .i64 a20,.slice a21 a22 a23,.slice a24 a25 a26,.slice a27 a28 a29,.slice a30 a31 a32] 202
abbrev O19(a0:Int)(a1:Option Addr)(a2 a3:Nat)(a4:Option Addr)(a5 a6:Nat):Obj:=.cells #[.int .i64 a0,.slice a1 a2 a3,.slice a4 a5 a6] 218
abbrev O20(a0 a1:Int)(a2:Option Addr)(a3 a4:Nat)(a5 a6 a7 a8:Int)(a9:Option Addr)(a10 a11:Nat)(a12:Option Addr)(a13 a14:Nat)(a15:Option Addr)(a16 a17:Nat):Obj:=.cells #[.int .i64 a0,.int .i64 a1,.slice a2 a3 a4,.int .i64 a5,.int .i64 a6,.int .i64 a7,.int .i64 a8,.slice a9 a10 a11,.slice a12 a13 a14,.slice a15 a16 a17] 94
abbrev O21(a0 a1 a2 a3:Int):Obj:=.cells #[.int .i64 a0,.int .i64 a1,.int .i64 a2,.int .i64 a3] 219
abbrev O22(a0:Int):Obj:=.cells #[.int .u8 a0] 5
abbrev O23(a0:Option Addr)(a1 a2:Nat):Obj:=.cells #[.slice a0 a1 a2] 99
abbrev O24(a0 a1 a2 a3:Int):Obj:=.cells #[.int .i64 a0,.int .i64 a1,.int .i64 a2,.int .i64 a3] 39
abbrev O25(a0:Option Addr)(a1 a2:Nat)(a3:Option Addr)(a4 a5:Nat):Obj:=.cells #[.slice a0 a1 a2,.slice a3 a4 a5] 80
abbrev O26(a0:Option Addr)(a1 a2:Nat)(a3:Option Addr)(a4 a5:Nat)(a6:Option Addr)(a7 a8:Nat)(a9:Option Addr)(a10 a11:Nat)(a12:Int)(a13:Bool):Obj:=.cells #[.slice a0 a1 a2,.slice a3 a4 a5,.slice a6 a7 a8,.slice a9 a10 a11,.int .i64 a12,.bool a13] 290
abbrev O27(a0:Option Addr)(a1 a2:Nat)(a3:Option Addr)(a4 a5:Nat):Obj:=.cells #[.slice a0 a1 a2,.slice a3 a4 a5] 150
abbrev O28(a0:Option Addr)(a1 a2:Nat)(a3:Option Addr)(a4 a5:Nat)(a6:Option Addr)(a7 a8:Nat)(a9:Option Addr)(a10 a11:Nat)(a12 a13:Int)(a14:Option Addr)(a15 a16:Nat)(a17 a18 a19 a20:Int)(a21:Option Addr)(a22 a23:Nat)(a24:Option Addr)(a25 a26:Nat)(a27:Option Addr)(a28 a29:Nat)(a30:Option Addr)(a31 a32:Nat):Obj:=.cells #[.slice a0 a1 a2,.slice a3 a4 a5,.slice a6 a7 a8,.slice a9 a10 a11,.int .i64 a12,.int .i64 a13,.slice a14 a15 a16,.int .i64 a17,.int .i64 a18,.int .i64 a19,.int .i64 a20,.slice a21 a22 a23,.slice a24 a25 a26,.slice a27 a28 a29,.slice a30 a31 a32] 145
abbrev O29(a0:Option Addr)(a1 a2:Nat)(a3:Option Addr)(a4 a5:Nat)(a6 a7:Int)(a8:Option Addr)(a9 a10:Nat)(a11 a12 a13 a14:Int)(a15:Option Addr)(a16 a17:Nat)(a18:Option Addr)(a19 a20:Nat)(a21:Option Addr)(a22 a23:Nat)(a24:Option Addr)(a25 a26:Nat)(a27:Option Addr)(a28 a29:Nat)(a30:Option Addr)(a31 a32:Nat)(a33:Option Addr)(a34 a35:Nat)(a36:Option Addr)(a37 a38:Nat)(a39 a40:Int)(a41:Option Addr)(a42 a43:Nat)(a44 a45 a46 a47:Int)(a48:Option Addr)(a49 a50:Nat)(a51:Option Addr)(a52 a53:Nat)(a54:Option Addr)(a55 a56:Nat)(a57:Option Addr)(a58 a59:Nat)(a60:Option Addr)(a61 a62:Nat)(a63:Bool):Obj:=.cells #[.slice a0 a1 a2,.slice a3 a4 a5,.int .i64 a6,.int .i64 a7,.slice a8 a9 a10,.int .i64 a11,.int .i64 a12,.int .i64 a13,.int .i64 a14,.slice a15 a16 a17,.slice a18 a19 a20,.slice a21 a22 a23,.slice a24 a25 a26,.slice a27 a28 a29,.slice a30 a31 a32,.slice a33 a34 a35,.slice a36 a37 a38,.int .i64 a39,.int .i64 a40,.slice a41 a42 a43,.int .i64 a44,.int .i64 a45,.int .i64 a46,.int .i64 a47,.slice a48 a49 a50,.slice a51 a52 a53,.slice a54 a55 a56,.slice a57 a58 a59,.slice a60 a61 a62,.bool a63] 149
abbrev O30(a0:Option Addr)(a1 a2:Nat)(a3:Option Addr)(a4 a5:Nat)(a6 a7 a8:Bool):Obj:=.cells #[.slice a0 a1 a2,.slice a3 a4 a5,.bool a6,.bool a7,.bool a8] 212
abbrev O31(a0 a1:Bool)(a2:Option Addr)(a3 a4:Nat)(a5:Option Addr)(a6 a7:Nat):Obj:=.cells #[.bool a0,.bool a1,.slice a2 a3 a4,.slice a5 a6 a7] 185
abbrev O32(a0:Option Addr)(a1 a2:Nat)(a3 a4:Bool):Obj:=.cells #[.slice a0 a1 a2,.bool a3,.bool a4] 182
abbrev O33(a0 a1:Int):Obj:=.cells #[.int .u8 a0,.int .u8 a1] 5
abbrev O34(a0:Int)(a1:ByteArray)(a2 a3 a4 a5 a6 a7 a8 a9:Int)(a10:Option Addr)(a11 a12:Nat):Obj:=.cells #[.int .i64 a0,.string a1,.int .i64 a2,.int .i64 a3,.int .i64 a4,.int .i64 a5,.int .i64 a6,.int .i64 a7,.int .i64 a8,.int .i64 a9,.slice a10 a11 a12] 58
theorem QB{w w1 w2:World}(h:Below w.heap.size w w1)(g:Below w1.heap.size w1 w2):Below w.heap.size w w2:=h.trans (g.mono h.size)
theorem QC{n:Nat}{w w':World}{p:Addr}{v:Option Value}(h:Below n w w')(l:p.block<n)(f:w.cell? p=v):w'.cell? p=v:=(h.cell l).trans f
theorem QL{n k:Nat}{w w':World}(h:Below n w w')(l:k<w.heap.size):k<w'.heap.size:=Nat.lt_of_lt_of_le l h.size
theorem QA{w:World}{o:Obj}{p:Addr}{v:Option Value}(l:p.block<w.heap.size)(f:w.cell? p=v):(w.alloc o).cell? p=v:=(World.cell?_alloc_lt _ _ _ l).trans f
theorem QN{w:World}(o:Obj):Below w.heap.size w (w.alloc o):=(Below.refl _ _).alloc (Nat.le_refl _) o
theorem QX:(∀(a:Act)(d:Tmp)(v:Value),a.put (some d) v={a with tmps:=a.tmps.setIfInBounds d v})∧(∀(a:Act)(v:Value),a.put none v=a)∧(∀(l:List Value)(i:Nat)(v:Value),l.toArray.setIfInBounds i v=(l.set i v).toArray)∧(∀(x:Value)(l:List Value)(v:Value),(x::l).set 0 v=v::l)∧(∀(x:Value)(l:List Value)(i:Nat)(v:Value),(x::l).set (i+1) v=x::l.set i v):=⟨fun _ _ _=>rfl,fun _ _=>rfl,fun _ _ _=>by simp,fun _ _ _=>rfl,fun _ _ _ _=>rfl⟩
def Gr (B:Nat) (w w':World):Prop:=w.grownBy w' (some B)
theorem Gr.refl (B:Nat) (w:World):Gr B w w:=⟨rfl,rfl,rfl,Nat.le_refl _,fun _ _ _=>rfl⟩
theorem Gr.size {B:Nat}{w w':World} (h:Gr B w w'):w.heap.size≤w'.heap.size:=World.grownBy.size h
theorem Gr.blk {B:Nat}{w w':World} (h:Gr B w w') {k:Nat} (hk:k<w.heap.size) (hB:k≠B):w'.heap[k]?=w.heap[k]? :=
 World.grownBy.block h k hk (by simpa using hB)
theorem Gr.trans {B:Nat}{a b c:World} (h:Gr B a b) (k:Gr B b c):Gr B a c :=
 ⟨(World.grownBy.os k).trans (World.grownBy.os h),(World.grownBy.tape k).trans (World.grownBy.tape h),(World.grownBy.output k).trans (World.grownBy.output h),Nat.le_trans h.size k.size,
  fun i hi hr=>(World.grownBy.block k i (Nat.lt_of_lt_of_le hi h.size) hr).trans (World.grownBy.block h i hi hr)⟩
theorem Gr.grown {B:Nat}{a b c:World}{row:Option Nat} (h:Gr B a b) (k:b.grownBy c row) (hr:∀ j,row=some j→a.heap.size≤j∨j=B):Gr B a c :=
 ⟨k.os.trans (World.grownBy.os h),k.tape.trans (World.grownBy.tape h),k.output.trans (World.grownBy.output h),Nat.le_trans h.size k.size,
  fun i hi hn=>(k.block i (Nat.lt_of_lt_of_le hi h.size) (fun e=>by rcases hr i e.symm with h1 | h1<;>first | omega | (subst h1;exact hn rfl))).trans (World.grownBy.block h i hi hn)⟩
theorem Gr.alloc {B:Nat}{a b:World} (h:Gr B a b) (o:Obj):Gr B a (b.alloc o) :=
 h.grown (World.grownBy_alloc b o none) (by simp)
theorem Gr.drewN {B:Nat}{a b:World} (h:Gr B a b) (n:Nat):Gr B a (b.drewN n):=by
 have h':a.grownBy b (some B):=h;exact⟨h'.os,h'.tape,h'.output,h'.size,h'.block⟩
theorem Pw (w:World) (p:Addr) (u:Value):w.grownBy (w.setCell p u) (some p.block) :=
 ⟨rfl,rfl,rfl,by simp[World.setCell],fun k _ hr=>Below.heap_setCell _ _ _ _ (by simpa using hr)⟩
theorem Gr.set {B:Nat}{a b:World} (h:Gr B a b) {p:Addr} (hp:a.heap.size≤p.block∨p.block=B) (u:Value):Gr B a (b.setCell p u) :=
 h.grown (Pw b p u) (by intro j hj;simp at hj;subst hj;exact hp)
theorem Gr.below {B:Nat}{w w':World} (h:Gr B w w') (hB:w.heap.size≤B):Below w.heap.size w w' :=
 ⟨World.grownBy.os h,World.grownBy.tape h,World.grownBy.output h,h.size,fun k hk=>h.blk hk (by omega)⟩
theorem Ai {w:World}{b i:Nat}{cs:Array Value}{t:TypeId} (h:w.heap[b]?=some (.cells cs t (0,0))) (u:Value) :
  (w.setCell ⟨b,i,none⟩ u).heap[b]?=some (.cells (cs.setIfInBounds i u) t (0,0)):=by
 have hlt:=lt_of_block h;have h':w.heap[b]=.cells cs t (0,0):=by simpa[Array.getElem?_eq_getElem hlt] using h
 show (w.heap.modify b _)[b]?=_;rw[Array.getElem?_eq_getElem (by simpa using hlt),Array.getElem_modify_self,h'];rfl
theorem Ab {w:World}{b:Nat}{cs:Array Value}{t:TypeId} (h:w.heap[b]?=some (.cells cs t (0,0))) (i:Nat):w.cell? ⟨b,i,none⟩=cs[i]?:=by simp[World.cell?,h]
theorem Ae {w:World}{b:Nat}{cs:Array Value}{t:TypeId} (h:w.heap[b]?=some (.cells cs t (0,0))) (i:Nat):w.frozen? ⟨b,i,none⟩=false:=by simp[World.frozen?,h]
theorem cl2 {w:World}{k:Nat}{cs:Array Value}{t:TypeId} (h:w.heap[k]?=some (.cells cs t (0,0))):w.cell? ⟨k,0,none⟩=cs[0]?∧w.cell? ⟨k,1,none⟩=cs[1]?:=⟨Ab h 0,Ab h 1⟩
theorem cl3 {w:World}{k:Nat}{cs:Array Value}{t:TypeId} (h:w.heap[k]?=some (.cells cs t (0,0))):w.cell? ⟨k,0,none⟩=cs[0]?∧w.cell? ⟨k,1,none⟩=cs[1]?∧w.cell? ⟨k,2,none⟩=cs[2]?:=⟨Ab h 0,Ab h 1,Ab h 2⟩
theorem cl4 {w:World}{k:Nat}{cs:Array Value}{t:TypeId} (h:w.heap[k]?=some (.cells cs t (0,0))):w.cell? ⟨k,0,none⟩=cs[0]?∧w.cell? ⟨k,1,none⟩=cs[1]?∧w.cell? ⟨k,2,none⟩=cs[2]?∧w.cell? ⟨k,3,none⟩=cs[3]?:=⟨Ab h 0,Ab h 1,Ab h 2,Ab h 3⟩
theorem cl9 {w:World}{k:Nat}{cs:Array Value}{t:TypeId} (h:w.heap[k]?=some (.cells cs t (0,0))):w.cell? ⟨k,0,none⟩=cs[0]?∧w.cell? ⟨k,1,none⟩=cs[1]?∧w.cell? ⟨k,2,none⟩=cs[2]?∧w.cell? ⟨k,3,none⟩=cs[3]?∧w.cell? ⟨k,4,none⟩=cs[4]?∧w.cell? ⟨k,5,none⟩=cs[5]?∧w.cell? ⟨k,6,none⟩=cs[6]?∧w.cell? ⟨k,7,none⟩=cs[7]?∧w.cell? ⟨k,8,none⟩=cs[8]?:=⟨Ab h 0,Ab h 1,Ab h 2,Ab h 3,Ab h 4,Ab h 5,Ab h 6,Ab h 7,Ab h 8⟩
theorem Dc {w:World}{k:Nat}{cs:Array Value}{t:TypeId} (h:w.heap[k]?=some (.cells cs t (0,0))):w.cell? ⟨k,0,none⟩=cs[0]?∧w.cell? ⟨k,1,none⟩=cs[1]?∧w.cell? ⟨k,2,none⟩=cs[2]?∧w.cell? ⟨k,3,none⟩=cs[3]?∧w.cell? ⟨k,4,none⟩=cs[4]?∧w.cell? ⟨k,5,none⟩=cs[5]?∧w.cell? ⟨k,6,none⟩=cs[6]?∧w.cell? ⟨k,7,none⟩=cs[7]?∧w.cell? ⟨k,8,none⟩=cs[8]?∧w.cell? ⟨k,9,none⟩=cs[9]?:=⟨Ab h 0,Ab h 1,Ab h 2,Ab h 3,Ab h 4,Ab h 5,Ab h 6,Ab h 7,Ab h 8,Ab h 9⟩
theorem Ap {w:World}{k:Nat}{cs:Array Value}{t:TypeId} (h:w.heap[k]?=some (.cells cs t (0,0))):w.cell? ⟨k,0,none⟩=cs[0]?∧w.cell? ⟨k,1,none⟩=cs[1]?∧w.cell? ⟨k,2,none⟩=cs[2]?∧w.cell? ⟨k,3,none⟩=cs[3]?∧w.cell? ⟨k,4,none⟩=cs[4]?∧w.cell? ⟨k,5,none⟩=cs[5]?∧w.cell? ⟨k,6,none⟩=cs[6]?∧w.cell? ⟨k,7,none⟩=cs[7]?∧w.cell? ⟨k,8,none⟩=cs[8]?∧w.cell? ⟨k,9,none⟩=cs[9]?∧w.cell? ⟨k,10,none⟩=cs[10]?∧w.cell? ⟨k,11,none⟩=cs[11]?:=⟨Ab h 0,Ab h 1,Ab h 2,Ab h 3,Ab h 4,Ab h 5,Ab h 6,Ab h 7,Ab h 8,Ab h 9,Ab h 10,Ab h 11⟩
theorem Gm {w:World}{k:Nat}{cs:Array Value}{t:TypeId} (h:w.heap[k]?=some (.cells cs t (0,0))):w.cell? ⟨k,0,none⟩=cs[0]?∧w.cell? ⟨k,1,none⟩=cs[1]?∧w.cell? ⟨k,2,none⟩=cs[2]?∧w.cell? ⟨k,3,none⟩=cs[3]?∧w.cell? ⟨k,4,none⟩=cs[4]?∧w.cell? ⟨k,5,none⟩=cs[5]?∧w.cell? ⟨k,6,none⟩=cs[6]?∧w.cell? ⟨k,7,none⟩=cs[7]?∧w.cell? ⟨k,8,none⟩=cs[8]?∧w.cell? ⟨k,9,none⟩=cs[9]?∧w.cell? ⟨k,10,none⟩=cs[10]?∧w.cell? ⟨k,11,none⟩=cs[11]?∧w.cell? ⟨k,12,none⟩=cs[12]?∧w.cell? ⟨k,13,none⟩=cs[13]?∧w.cell? ⟨k,14,none⟩=cs[14]?:=⟨Ab h 0,Ab h 1,Ab h 2,Ab h 3,Ab h 4,Ab h 5,Ab h 6,Ab h 7,Ab h 8,Ab h 9,Ab h 10,Ab h 11,Ab h 12,Ab h 13,Ab h 14⟩
theorem fr2 {w:World}{k:Nat}{cs:Array Value}{t:TypeId} (h:w.heap[k]?=some (.cells cs t (0,0))):w.frozen? ⟨k,0,none⟩=false∧w.frozen? ⟨k,1,none⟩=false:=⟨Ae h 0,Ae h 1⟩
theorem fr3 {w:World}{k:Nat}{cs:Array Value}{t:TypeId} (h:w.heap[k]?=some (.cells cs t (0,0))):w.frozen? ⟨k,0,none⟩=false∧w.frozen? ⟨k,1,none⟩=false∧w.frozen? ⟨k,2,none⟩=false:=⟨Ae h 0,Ae h 1,Ae h 2⟩
theorem fr4 {w:World}{k:Nat}{cs:Array Value}{t:TypeId} (h:w.heap[k]?=some (.cells cs t (0,0))):w.frozen? ⟨k,0,none⟩=false∧w.frozen? ⟨k,1,none⟩=false∧w.frozen? ⟨k,2,none⟩=false∧w.frozen? ⟨k,3,none⟩=false:=⟨Ae h 0,Ae h 1,Ae h 2,Ae h 3⟩
theorem Dj {w:World}{k:Nat}{cs:Array Value}{t:TypeId} (h:w.heap[k]?=some (.cells cs t (0,0))):w.frozen? ⟨k,0,none⟩=false∧w.frozen? ⟨k,1,none⟩=false∧w.frozen? ⟨k,2,none⟩=false∧w.frozen? ⟨k,3,none⟩=false∧w.frozen? ⟨k,4,none⟩=false∧w.frozen? ⟨k,5,none⟩=false∧w.frozen? ⟨k,6,none⟩=false∧w.frozen? ⟨k,7,none⟩=false∧w.frozen? ⟨k,8,none⟩=false∧w.frozen? ⟨k,9,none⟩=false∧w.frozen? ⟨k,10,none⟩=false∧w.frozen? ⟨k,11,none⟩=false:=⟨Ae h 0,Ae h 1,Ae h 2,Ae h 3,Ae h 4,Ae h 5,Ae h 6,Ae h 7,Ae h 8,Ae h 9,Ae h 10,Ae h 11⟩
theorem Ad (w:World) (o:Obj):(w.alloc o).heap[w.heap.size]?=some o:=heap_alloc_new w o
def RdAt (w:World) (B:Nat) (s:ByteArray) (t:Rd.St):Prop :=
 w.heap[B]?=some (O0 s t.pos t.bad)
theorem RdAt.cells {w:World}{B:Nat}{s:ByteArray}{t:Rd.St} (h:RdAt w B s t) :
  w.cell? ⟨B,0,none⟩=some (.string s)∧w.cell? ⟨B,1,none⟩=some (.int .i64 t.pos)∧w.cell? ⟨B,2,none⟩=some (.bool t.bad) ∧
  w.frozen? ⟨B,0,none⟩=false∧w.frozen? ⟨B,1,none⟩=false∧w.frozen? ⟨B,2,none⟩=false:=by
 unfold RdAt at h;simp[World.cell?,World.frozen?,h]
theorem RdAt.lt {w:World}{B:Nat}{s:ByteArray}{t:Rd.St} (h:RdAt w B s t):B<w.heap.size:=lt_of_block h
theorem RdAt.alloc {w:World}{B:Nat}{s:ByteArray}{t:Rd.St} (h:RdAt w B s t) (o:Obj):RdAt (w.alloc o) B s t:=by
 unfold RdAt;rw[Below.heap_alloc w o B h.lt];exact h
theorem RdAt.set {w:World}{B:Nat}{s:ByteArray}{t:Rd.St} (h:RdAt w B s t) {p:Addr} (hp:p.block≠B) (u:Value):RdAt (w.setCell p u) B s t:=by
 unfold RdAt;rw[Below.heap_setCell _ _ _ _ (fun e=>hp e.symm)];exact h
theorem RdAt.grown {w w':World}{B:Nat}{s:ByteArray}{t:Rd.St}{row:Option Nat} (h:RdAt w B s t) (hg:w.grownBy w' row) (hr:some B≠row):RdAt w' B s t:=by
 unfold RdAt;rw[hg.block B h.lt hr];exact h
theorem RdAt.pos {w:World}{B:Nat}{s:ByteArray}{t:Rd.St} (h:RdAt w B s t) (q:Int) (k:Nat) (hq:q=k):RdAt (w.setCell ⟨B,1,none⟩ (.int .i64 q)) B s ⟨k,t.bad⟩:=by
 unfold RdAt at h ⊢;rw[Ai h,hq];rfl
theorem RdAt.bad {w:World}{B:Nat}{s:ByteArray}{t:Rd.St} (h:RdAt w B s t) (b:Bool):RdAt (w.setCell ⟨B,2,none⟩ (.bool b)) B s ⟨t.pos,b⟩:=by
 unfold RdAt at h ⊢;rw[Ai h];rfl
theorem RdAt.drewN {w:World}{B:Nat}{s:ByteArray}{t:Rd.St} (h:RdAt w B s t) (n:Nat):RdAt (w.drewN n) B s t:=h
theorem Gr.own {B:Nat}{w w1:World}{k:Nat}{o:Obj} (h:Gr B w w1) (hb:w.heap[k]?=some o) (hB:k≠B):w1.heap[k]?=some o:=by
 rw[h.blk (lt_of_block hb) hB];exact hb
theorem Kl {B base size n:Nat}{e:TypeId}{v:Value}{xs:List Value}{w w':World} (h:w.ownsRow base e size v n xs) (hg:Gr B w w') (hB:B<base):w'.ownsRow base e size v n xs:=by
 refine h.kept hg ?_;cases hv:v.ownBlock with
 | none=>exact .inl rfl
 | some k=>have:=h.lt k hv;right;intro hc;simp at hc;omega
theorem Hf {B base size n:Nat}{e:TypeId}{v:Value}{xs:List Value}{w:World} (h:w.ownsRow base e size v n xs) (hB:B<base):some B≠v.ownBlock:=by
 intro hc;have:=h.lt B hc.symm;omega
theorem Gz {B base size n:Nat}{e:TypeId}{v:Value}{xs:List Value}{w:World} (h:w.ownsRow base e size v n xs):∀ j,v.ownBlock=some j→base≤j∨j=B :=
 fun j hj=>.inl (h.lt j hj).1
theorem Ba {base base' size n:Nat}{e:TypeId}{v:Value}{xs:List Value}{w:World} (h:w.ownsRow base e size v n xs) (hb:base'≤base):w.ownsRow base' e size v n xs:=by
 obtain⟨h1,h2|⟨g,cap,cur,a,b,r⟩⟩:=h
 ·exact⟨h1,.inl h2⟩
 ·exact⟨h1,.inr ⟨g,cap,cur,a,by omega,r⟩⟩
theorem Af {base size n:Nat}{e:TypeId}{v:Value}{xs:List Value}{w:World} (h:w.ownsRow base e size v n xs):∃ a c,v=.slice a n c:=by
 obtain⟨_,⟨rfl,rfl⟩|⟨g,cap,cur,rfl,_⟩⟩:=h
 ·exact⟨none,0,rfl⟩
 ·exact⟨_,_,rfl⟩
theorem Au (w:World) (l:List Value) (t:TypeId) (g:Nat) (hg:w.heap.size=g) :
  ∀ (j:Nat) (x:Value),l[j]?=some x→(w.alloc (.cells l.toArray t)).cell? ((⟨g,0,none⟩:Addr).add j)=some x:=by
 intro j x hx;have hadd:(⟨g,0,none⟩:Addr).add j=⟨g,j,none⟩:=by unfold Addr.add;split<;>simp_all
 subst hg;rw[hadd,Ab (Ad w (.cells l.toArray t (0,0))) j]
 simpa using hx
theorem Ac {p:Prop} (h:p):Hid p:=h
theorem Aa {p:Prop} (h:Hid p):p:=h
theorem Qt {k:IntKind}{a b:Int} (h:a=b):Ending.returned (.int k a)=.returned (.int k b):=by rw[h]
theorem Im (c:UInt8):wrap64 (c.toNat:Int)=(c.toNat:Int):=by
 have:=c.toNat_lt;unfold wrap64;omega
theorem Zg {s:ByteArray}{pos:Nat} (h:pos<s.size):Rd.nx s.data.toList ⟨pos,false⟩=((s[pos].toNat:Int),⟨pos+1,false⟩):=by
 have h':pos<s.data.toList.length:=by simpa using h
 have e:s.data.toList[pos]?.getD 0=s[pos]:=by rw[List.getElem?_eq_getElem h'];rfl
 unfold Rd.nx;rw[if_neg (by simp),if_neg (by simp only;omega)];simp only[e]
theorem Hm {s:ByteArray}{pos:Nat} (h:¬ pos<s.size):Rd.nx s.data.toList ⟨pos,false⟩=(0,⟨pos,true⟩):=by
 have h':s.data.toList.length=s.size:=by simp
 unfold Rd.nx;rw[if_neg (by simp),if_pos (by simp only;omega)]
theorem Bk {s:ByteArray}{pos:Nat}:Rd.nx s.data.toList ⟨pos,true⟩=(0,⟨pos,true⟩):=by simp[Rd.nx]
theorem Bq (s:ByteArray) (B:Nat) (t:Rd.St) (w:World) (hs:s.size≤maxLen) (hR:RdAt w B s t) :
  Calls Tryz.prog 153 #[.pointer (some ⟨B,0,none⟩)] w fun e w'=>e=.returned (.int .i64 (Rd.nx s.data.toList t).1)∧RdAt w' B s (Rd.nx s.data.toList t).2∧Gr B w w':=by
 unfold maxLen at hs;obtain⟨c0,c1,c2,f0,f1,f2⟩:=hR.cells;obtain⟨pos,bad⟩:=t;simp only at c1 c2;cases bad
 ·by_cases hlt:pos<s.size
  ·rw[Zg hlt];have g1:decide ((pos:Int)<0)=false:=by simp
   go_enter Tryz.func153,Tryz.ntmps153;go_wp2
   go_quiet (fail)
   go_wp2
   go_quiet (fail)
   go_wp2;go_ret;exact⟨Qt (Im _),(hR.drewN _).pos _ _ (by omega),((Gr.refl _ _).drewN _).set (.inr rfl) _⟩
  ·rw[Hm hlt];have g1:decide ((pos:Int)<0)=false:=by simp
   have g2:decide (s.size≤pos)=true:=by simp;omega
   go_enter Tryz.func153,Tryz.ntmps153;go_wp2
   go_quiet (fail)
   go_wp2;go_ret;exact⟨rfl,(hR.drewN _).bad _,((Gr.refl _ _).drewN _).set (.inr rfl) _⟩
 ·rw[Bk];go_enter Tryz.func153,Tryz.ntmps153;go_wp2
  go_quiet (fail)
  go_wp2;go_ret;exact⟨rfl,(hR.drewN _).bad _,((Gr.refl _ _).drewN _).set (.inr rfl) _⟩
theorem Ke (s:ByteArray) (B:Nat) (b:Int) (t:Rd.St) (w:World) (hs:s.size≤maxLen) (hR:RdAt w B s t) :
  Calls Tryz.prog 112 #[.pointer (some ⟨B,0,none⟩),.int .i64 b] w fun e w'=>e=.returned (.tuple #[])∧RdAt w' B s (Rd.ex s.data.toList b t)∧Gr B w w':=by
 unfold Rd.ex;generalize hr:Rd.nx s.data.toList t=r;have Hr:=Ac hr;clear hr;by_cases hb:r.1=b
 ·rw[if_pos hb];have hb1:(r.1 != b)=false:=by simp[hb]
  have Hb:=Ac hb;clear hb;go_enter Tryz.func112,Tryz.ntmps112;go_wp2_with (go_at_call 153;refine(Bq s B t _ hs hR).mono ?_;rw[Aa Hr];rintro e w1 ⟨rfl,hR1,hg1⟩)
  go_end0
  exact⟨rfl,hR1,hg1⟩
 ·rw[if_neg hb];have hb1:(r.1 != b)=true:=by simp[hb]
  have Hb:=Ac hb;clear hb;go_enter Tryz.func112,Tryz.ntmps112;go_wp2_with (go_at_call 153;refine(Bq s B t _ hs hR).mono ?_;rw[Aa Hr];rintro e w1 ⟨rfl,hR1,hg1⟩;obtain⟨c0,c1,c2,f0,f1,f2⟩:=hR1.cells)
  go_end0
  exact⟨rfl,hR1.bad _,hg1.set (.inr rfl) _⟩
theorem Ce (s:ByteArray) (B:Nat) (least most:Int) (t:Rd.St) (w:World) (hs:s.size≤maxLen) (hR:RdAt w B s t) :
  Calls Tryz.prog 113 #[.pointer (some ⟨B,0,none⟩),.int .i64 least,.int .i64 most] w fun e w'=>e=.returned (.int .i64 (Rd.cn s.data.toList least most t).1)∧RdAt w' B s (Rd.cn s.data.toList least most t).2∧Gr B w w':=by
 unfold Rd.cn;generalize hr:Rd.nx s.data.toList t=r;have Hr:=Ac hr;clear hr;by_cases h1:r.1<least
 ·rw[if_pos h1];go_enter Tryz.func113,Tryz.ntmps113;go_wp2_with (go_at_call 153;refine(Bq s B t _ hs hR).mono ?_;rw[Aa Hr];rintro e w1 ⟨rfl,hR1,hg1⟩;obtain⟨c0,c1,c2,f0,f1,f2⟩:=hR1.cells)
  go_ret;exact⟨rfl,hR1.bad _,hg1.set (.inr rfl) _⟩
 ·rw[if_neg h1];by_cases h2:most<r.1
  ·rw[if_pos h2];go_enter Tryz.func113,Tryz.ntmps113;go_wp2_with (go_at_call 153;refine(Bq s B t _ hs hR).mono ?_;rw[Aa Hr];rintro e w1 ⟨rfl,hR1,hg1⟩;obtain⟨c0,c1,c2,f0,f1,f2⟩:=hR1.cells)
   go_ret;exact⟨rfl,hR1.bad _,hg1.set (.inr rfl) _⟩
  ·rw[if_neg h2];go_enter Tryz.func113,Tryz.ntmps113;go_wp2_with (go_at_call 153;refine(Bq s B t _ hs hR).mono ?_;rw[Aa Hr];rintro e w1 ⟨rfl,hR1,hg1⟩)
   go_ret;exact⟨rfl,hR1,hg1⟩
theorem Jn (s:ByteArray) (B:Nat) (t:Rd.St) (w:World) (hs:s.size≤maxLen) (hR:RdAt w B s t) :
  Calls Tryz.prog 155 #[.pointer (some ⟨B,0,none⟩)] w fun e w'=>e=.returned (.agg #[.int .i64 (Rd.ty s.data.toList t).1.1,.int .i64 (Rd.ty s.data.toList t).1.2])∧RdAt w' B s (Rd.ty s.data.toList t).2∧Gr B w w':=by
 unfold Rd.ty;have hlt:=hR.lt;generalize hr1:Rd.nx s.data.toList t=r1;generalize hr2:Rd.nx s.data.toList r1.2=r2;have H1:=Ac hr1;have H2:=Ac hr2;clear hr1 hr2;go_enter Tryz.func155,Tryz.ntmps155;go_wp2_with fail
 refine(Bq s B t _ hs (hR.alloc _)).mono ?_;rw[Aa H1];rintro e w1 ⟨rfl,hR1,hg1⟩;go_wp2_with fail
 refine(Bq s B r1.2 _ hs hR1).mono ?_;rw[Aa H2];rintro e w2 ⟨rfl,hR2,hg2⟩;have hb:=hg2.own (hg1.own (Ad w _) (by omega)) (by omega);obtain⟨c0,c1⟩:=cl2 hb;obtain⟨f0,f1⟩:=fr2 hb;simp only[List.getElem?_toArray,List.getElem?_cons_zero,List.getElem?_cons_succ]at c0 c1;go_wp2_with fail
 refine bodyPost_ret (v:=.agg #[.int .i64 r1.1,.int .i64 r2.1]) (by simp[results,Tryz.results155,go_sem,c0,c1]) rfl ⟨rfl,(hR2.set (by simp;omega) _).set (by simp;omega) _,?_⟩;exact((((Gr.refl _ _).alloc _).trans (hg1.trans hg2)).set (.inl (by simp)) _).set (.inl (by simp)) _
theorem Tryz.infoType:(Tryz.prog.info? 39).map (fun i=>(i.zero,i.size,i.bytes))=some (some (.agg #[.int .i64 0,.int .i64 0]),2,16):=by kernel_rfl
def Am (l:List (Int × Int)):List Value:=l.flatMap fun x=>[.int .i64 x.1,.int .i64 x.2]
theorem Dh (l:List (Int × Int)) (x:Int × Int):Am (l++[x])=Am l++[.int .i64 x.1,.int .i64 x.2]:=by simp[Am]
theorem Gp (s:ByteArray) (B:Nat) (n:Int) (t:Rd.St) (w:World) (hs:s.size≤maxLen) (hn0:0≤n) (hn1:n≤255) (hR:RdAt w B s t) :
  Calls Tryz.prog 154 #[.pointer (some ⟨B,0,none⟩),.int .i64 n] w fun e w' =>
   ∃ v,e=.returned v∧w'.ownsRow w.heap.size 39 2 v n.toNat (Am (Rd.tys s.data.toList n.toNat t).1)∧RdAt w' B s (Rd.tys s.data.toList n.toNat t).2∧Gr B w w':=by
 have hlt:=hR.lt;obtain⟨i0,hi,hz0,hz1,hz2⟩:=info_parts Tryz.infoType;unfold Rd.tys;go_enter Tryz.func154,Tryz.ntmps154;go_wp2
 go_loopw [5,6] (fun v i wr=>∃ k:Nat,(k:Int)≤n∧i=.int .i64 k∧wr.ownsRow w.heap.size 39 2 v k (Am (Rd.rep (Rd.ty s.data.toList) k t).1)∧RdAt wr B s (Rd.rep (Rd.ty s.data.toList) k t).2∧Gr B w wr)
  (fun _ i _=>n.toNat-(intOf i).toNat)
 case atStart=>exact⟨0,by omega,rfl,World.ownsRow_nil _ _ _ _,hR,Gr.refl _ _⟩
 case round =>
  obtain⟨k,hk,rfl,hown,hRr,hgr⟩:=hrel;have hsz:=hgr.size;by_cases hkn:(k:Int)<n
  ·generalize hp:Rd.rep (Rd.ty s.data.toList) k t=p at *;generalize hq:Rd.ty s.data.toList p.2=q at *;have HP:=Ac hp;have HQ:=Ac hq;clear hp hq;go_wp2_with fail
   refine(Jn s B p.2 _ hs hRr).mono ?_;rw[Aa HQ];rintro e w1 ⟨rfl,hR1,hg1⟩;have hsz1:=hg1.size;have hown1:=Kl hown hg1 hlt;go_wp2_with (at_builtin;refine wpList_append_own _ rfl _ _ 48 rfl w.heap.size 39 i0 _ 2 16 Tryz.underlying48 hi hz0 hz1 hz2 rfl (by decide) _ _ _ rfl ((hown1.alloc _).alloc _) ⟨w1.heap.size+1,0,none⟩ 1 1 [.int .i64 q.1.1,.int .i64 q.1.2] rfl rfl ?c1 ?c2 ?c3 ?c4 ?c5 ?_)
   case c1=>exact Au _ _ _ _ (by simp)
   case c2=>intro u hu;simp at hu;rcases hu with rfl | rfl<;>rfl
   case c3=>unfold maxLen;omega
   case c4=>omega
   case c5=>simp;omega
   intro v' w2 hown2 hgrow _;have hR2:=((hR1.alloc _).alloc _).grown hgrow (Hf hown1 hlt);have hg2:=(((hgr.trans hg1).alloc _).alloc _).grown hgrow (Gz hown1);have e1:(Rd.rep (Rd.ty s.data.toList) (k+1) t)=(p.1++[q.1],q.2):=by simp only[Rd.rep,Aa HP,Aa HQ]
   rw[← Dh]at hown2;have HE:=Ac e1;clear e1 hgrow hown hown1 hRr hR1 hg1 hgr;go_wp2
   go_roundw
   case rel=>exact⟨k+1,by omega,by go_num,by rw[Aa HE];exact hown2,by rw[Aa HE];exact hR2,hg2⟩
   case measure=>simp[intOf];omega
  ·have e:k=n.toNat:=by omega
   subst e;go_wp2;go_ret;exact⟨_,rfl,hown,hRr,hgr⟩
def Kp (e:Option TypeId) (b:Nat) (w w':World):Prop :=
 ∀ k cs t,b≤k→w.heap[k]?=some (.cells cs t (0,0))→some t≠e→w'.heap[k]?=some (.cells cs t (0,0))
theorem Kp.of_gr {e:Option TypeId}{B b:Nat}{w w':World} (h:Gr B w w') (hB:B<b):Kp e b w w':=by
 intro k cs t hk hc _;rw[h.blk (lt_of_block hc) (by omega)];exact hc
theorem Kp.of_below {e:Option TypeId}{b:Nat}{w w':World} (h:Below w.heap.size w w'):Kp e b w w':=by
 intro k cs t _ hc _;rw[h.block k (lt_of_block hc)];exact hc
theorem Kp.of_grown {e:TypeId}{b b0 size n:Nat}{v:Value}{xs:List Value}{w w':World} (hg:w.grownBy w' v.ownBlock) (h:w.ownsRow b0 e size v n xs):Kp (some e) b w w':=by
 intro k cs t _ hc ht;rw[hg.block k (lt_of_block hc) ?_];exact hc;intro hk;obtain⟨h1,⟨rfl,_⟩ | ⟨g,cap,cur,rfl,_,hgg,_⟩⟩:=h
 ·simp[Value.ownBlock]at hk
 ·simp[Value.ownBlock]at hk;subst hk;rw[hc]at hgg;simp at hgg;exact ht (by rw[hgg.2])
theorem Kp.trans {e:Option TypeId}{b:Nat}{w w1 w2:World} (h:Kp e b w w1) (k:Kp e b w1 w2):Kp e b w w2 :=
 fun i cs t hi hc ht=>k i cs t hi (h i cs t hi hc ht) ht
theorem Kp.alloc {e:Option TypeId}{b:Nat} (w:World) (o:Obj):Kp e b w (w.alloc o):=by
 intro k cs t _ hc _;rw[Below.heap_alloc w o k (lt_of_block hc)];exact hc
theorem Kp.set {e:TypeId}{b i:Nat}{w:World}{g:Nat}{cs:Array Value} (h:w.heap[g]?=some (.cells cs e (0,0))) (u:Value):Kp (some e) b w (w.setCell ⟨g,i,none⟩ u):=by
 intro k cs' t _ hc ht;rw[Below.heap_setCell _ _ _ _ ?_];exact hc;intro hk;simp only at hk;subst hk;rw[hc]at h;simp at h;exact ht (by rw[h.2])
theorem Av {e:Option TypeId}{b size n:Nat}{t:TypeId}{v:Value}{xs:List Value}{w w':World} (h:w.ownsRow b t size v n xs) (hk:Kp e b w w') (hne:some t≠e):w'.ownsRow b t size v n xs:=by
 obtain⟨h1,h2|⟨g,cap,cur,a,c,d,r⟩⟩:=h
 ·exact⟨h1,.inl h2⟩
 ·exact⟨h1,.inr ⟨g,cap,cur,a,c,hk g cur t c d hne,r⟩⟩
def TysAt (w:World) (b:Nat) (v:Value) (l:List (Int × Int)):Prop:=w.ownsRow b 39 2 v l.length (Am l)
theorem TysAt.kp {e:Option TypeId}{b:Nat}{v:Value}{l:List (Int × Int)}{w w':World} (h:TysAt w b v l) (hk:Kp e b w w') (hne:some 39≠e):TysAt w' b v l:=Av h hk hne
theorem TysAt.mono {b b':Nat}{v:Value}{l:List (Int × Int)}{w:World} (h:TysAt w b v l) (hb:b'≤b):TysAt w b' v l:=Ba h hb
def IntsAt (w:World) (b:Nat) (v:Value) (l:List Int):Prop:=w.ownsRow b 3 1 v l.length (l.map (Value.int .i64))
theorem IntsAt.kp {e:Option TypeId}{b:Nat}{v:Value}{l:List Int}{w w':World} (h:IntsAt w b v l) (hk:Kp e b w w') (hne:some 3≠e):IntsAt w' b v l:=Av h hk hne
theorem IntsAt.mono {b b':Nat}{v:Value}{l:List Int}{w:World} (h:IntsAt w b v l) (hb:b'≤b):IntsAt w b' v l:=Ba h hb
def Bb (l:List Rd.Hnd):List Value:=l.flatMap fun x=>[.int .i64 x.frm,.int .i64 x.til,.int .i64 x.target,.int .i64 x.cl]
theorem I8 (l:List Rd.Hnd) (x:Rd.Hnd):Bb (l++[x])=Bb l++[.int .i64 x.frm,.int .i64 x.til,.int .i64 x.target,.int .i64 x.cl]:=by simp[Bb]
def HndsAt (w:World) (b:Nat) (v:Value) (l:List Rd.Hnd):Prop:=w.ownsRow b 219 4 v l.length (Bb l)
theorem HndsAt.kp {e:Option TypeId}{b:Nat}{v:Value}{l:List Rd.Hnd}{w w':World} (h:HndsAt w b v l) (hk:Kp e b w w') (hne:some 219≠e):HndsAt w' b v l:=Av h hk hne
theorem HndsAt.mono {b b':Nat}{v:Value}{l:List Rd.Hnd}{w:World} (h:HndsAt w b v l) (hb:b'≤b):HndsAt w b' v l:=Ba h hb
def By (l:List (Rd.Cls × Value)):List Value:=l.flatMap fun x=>[.int .i64 x.1.above,x.2]
theorem Jc (l:List (Rd.Cls × Value)) (x:Rd.Cls × Value):By (l++[x])=By l++[.int .i64 x.1.above,x.2]:=by simp[By]
def ClssIn (w:World) (b:Nat) (v:Value) (l:List (Rd.Cls × Value)):Prop :=
 w.ownsRow b 102 2 v l.length (By l)∧∀ p∈l,TysAt w b p.2 p.1.fields
theorem ClssIn.kp {b:Nat}{v:Value}{l:List (Rd.Cls × Value)}{w w':World} (h:ClssIn w b v l) {e:Option TypeId} (hk:Kp e b w w') (hne:some 102≠e) (hne2:some 39≠e):ClssIn w' b v l :=
 ⟨Av h.1 hk hne,fun p hp=>(h.2 p hp).kp hk hne2⟩
theorem ClssIn.mono {b b':Nat}{v:Value}{l:List (Rd.Cls × Value)}{w:World} (h:ClssIn w b v l) (hb:b'≤b):ClssIn w b' v l:=⟨Ba h.1 hb,fun p hp=>(h.2 p hp).mono hb⟩
def Vc (w:World) (b:Nat) (v:Value) (cs:List Rd.Cls):Prop:=∃ l,l.map Prod.fst=cs∧ClssIn w b v l
def Co (l:List (Rd.Mp × Value × Value)):List Value:=l.flatMap fun x=>[.int .i64 x.1.place,x.2.1,x.2.2]
theorem Gx (l:List (Rd.Mp × Value × Value)) (x:Rd.Mp × Value × Value):Co (l++[x])=Co l++[.int .i64 x.1.place,x.2.1,x.2.2]:=by simp[Co]
def MpsIn (w:World) (b:Nat) (v:Value) (l:List (Rd.Mp × Value × Value)):Prop :=
 w.ownsRow b 218 3 v l.length (Co l)∧∀ p∈l,TysAt w b p.2.1 p.1.locals∧TysAt w b p.2.2 p.1.stack
theorem MpsIn.kp {b:Nat}{v:Value}{l:List (Rd.Mp × Value × Value)}{w w':World} (h:MpsIn w b v l) {e:Option TypeId} (hk:Kp e b w w') (hne:some 218≠e) (hne2:some 39≠e):MpsIn w' b v l :=
 ⟨Av h.1 hk hne,fun p hp=>⟨(h.2 p hp).1.kp hk hne2,(h.2 p hp).2.kp hk hne2⟩⟩
theorem MpsIn.mono {b b':Nat}{v:Value}{l:List (Rd.Mp × Value × Value)}{w:World} (h:MpsIn w b v l) (hb:b'≤b):MpsIn w b' v l:=⟨Ba h.1 hb,fun p hp=>⟨(h.2 p hp).1.mono hb,(h.2 p hp).2.mono hb⟩⟩
def Xg (w:World) (b:Nat) (v:Value) (ms:List Rd.Mp):Prop:=∃ l,l.map Prod.fst=ms∧MpsIn w b v l
structure MthV where
 params:Value
 code:Value
 handlers:Value
 maps:Value
def Cj (m:Rd.Mth) (u:MthV):List Value :=
 [.int .i64 m.cl,.int .i64 m.name,u.params,.int .i64 m.result.1,.int .i64 m.result.2,.int .i64 m.locals,.int .i64 m.stack,u.code,u.handlers,u.maps]
def MthIn (w:World) (b:Nat) (m:Rd.Mth) (u:MthV):Prop :=
 TysAt w b u.params m.params∧IntsAt w b u.code m.code∧HndsAt w b u.handlers m.handlers∧Xg w b u.maps m.maps
theorem MthIn.kp {b:Nat}{m:Rd.Mth}{u:MthV}{w w':World} (h:MthIn w b m u) {e:Option TypeId} (hk:Kp e b w w') (h1:some 39≠e) (h2:some 3≠e) (h3:some 219≠e) (h4:some 218≠e):MthIn w' b m u:=by
 obtain⟨a,c,d,l,hl,f⟩:=h;exact⟨a.kp hk h1,c.kp hk h2,d.kp hk h3,l,hl,f.kp hk h4 h1⟩
theorem MthIn.mono {b b':Nat}{m:Rd.Mth}{u:MthV}{w:World} (h:MthIn w b m u) (hb:b'≤b):MthIn w b' m u:=by
 obtain⟨a,c,d,l,hl,f⟩:=h;exact⟨a.mono hb,c.mono hb,d.mono hb,l,hl,f.mono hb⟩
def Cb (l:List (Rd.Mth × MthV)):List Value:=l.flatMap fun x=>Cj x.1 x.2
theorem Ig (l:List (Rd.Mth × MthV)) (x:Rd.Mth × MthV):Cb (l++[x])=Cb l++Cj x.1 x.2:=by simp[Cb]
def MthsIn (w:World) (b:Nat) (v:Value) (l:List (Rd.Mth × MthV)):Prop :=
 w.ownsRow b 94 10 v l.length (Cb l)∧∀ p∈l,MthIn w b p.1 p.2
theorem MthsIn.kp {b:Nat}{v:Value}{l:List (Rd.Mth × MthV)}{w w':World} (h:MthsIn w b v l) {e:Option TypeId} (hk:Kp e b w w') (h0:some 94≠e) (h1:some 39≠e) (h2:some 3≠e) (h3:some 219≠e) (h4:some 218≠e):MthsIn w' b v l :=
 ⟨Av h.1 hk h0,fun p hp=>(h.2 p hp).kp hk h1 h2 h3 h4⟩
theorem MthsIn.mono {b b':Nat}{v:Value}{l:List (Rd.Mth × MthV)}{w:World} (h:MthsIn w b v l) (hb:b'≤b):MthsIn w b' v l:=⟨Ba h.1 hb,fun p hp=>(h.2 p hp).mono hb⟩
def Tw (w:World) (b:Nat) (v:Value) (ms:List Rd.Mth):Prop:=∃ l,l.map Prod.fst=ms∧MthsIn w b v l
theorem Ag (w:World) (o o':Obj):((w.alloc o).alloc o').heap[w.heap.size+1]?=some o':=by
 have:=Ad (w.alloc o) o'
 simpa using this
theorem Ah (w:World) (o o':Obj):((w.alloc o).alloc o').heap[w.heap.size]?=some o:=by
 rw[Below.heap_alloc _ _ _ (by simp)];exact Ad w o
theorem Kp.set_lo {e:Option TypeId}{b g i:Nat}{w:World} (hg:g<b) (u:Value):Kp e b w (w.setCell ⟨g,i,none⟩ u):=by
 intro k cs t hk hc _;rw[Below.heap_setCell _ _ _ _ (by simp;omega)];exact hc
theorem tys_len (s:List UInt8) (n:Nat) (t:Rd.St):(Rd.tys s n t).1.length=n:=Rd.rep_len _ _ _
theorem Uw (s:ByteArray) (B:Nat) (t:Rd.St) (w:World) (hs:s.size≤maxLen) (hR:RdAt w B s t) :
  Calls Tryz.prog 114 #[.pointer (some ⟨B,0,none⟩)] w fun e w' =>
   ∃ v,e=.returned (.agg #[.int .i64 (Rd.cls s.data.toList t).1.above,v])∧TysAt w' w.heap.size v (Rd.cls s.data.toList t).1.fields∧RdAt w' B s (Rd.cls s.data.toList t).2∧Gr B w w':=by
 have hlt:=hR.lt;unfold Rd.cls;dsimp only;generalize hr1:Rd.nx s.data.toList t=r1;generalize hr2:Rd.cn s.data.toList 0 4 r1.2=r2;have hbd:=Rd.cn_bd s.data.toList 0 4 r1.2 (by omega);rw[hr2]at hbd;obtain⟨hbd0,hbd1⟩:=hbd;have H1:=Ac hr1;have H2:=Ac hr2;clear hr1 hr2;go_enter Tryz.func114,Tryz.ntmps114;go_wp2_with fail
 refine(Bq s B t _ hs ((hR.alloc _).alloc _)).mono ?_;rw[Aa H1];rintro e w1 ⟨rfl,hR1,hg1⟩;have hg:=(((Gr.refl B w).alloc _).alloc _).trans hg1;have hb:=hg1.own (Ag w _ _) (by omega);have hc:=hg1.own (Ah w _ _) (by omega);have k0:=Ab hb 0;have f0:=Ae hb 0;simp only[List.getElem?_toArray,List.getElem?_cons_zero]at k0;go_wp2_with fail
 clear k0 f0;refine(Ce s B 0 4 r1.2 _ hs (hR1.set (by simp;omega) _)).mono ?_;rw[Aa H2];rintro e w2 ⟨rfl,hR2,hg2⟩;have hg':=(hg.set (.inl (by simp)) _).trans hg2;have hb2:=hg2.own (Ai hb _) (by omega);have hc2:=hg2.own ((Below.heap_setCell w1 ⟨w.heap.size+1,0,none⟩ (.int .i64 r1.1) w.heap.size (by simp)).trans hc) (by omega);have hs1:=hg1.size;have hs2:=hg2.size;simp at hs1 hs2;clear hb hc hg hg1 hg2 hR1;go_wp2_with fail
 refine(Gp s B r2.1 r2.2 _ hs hbd0 (by omega) hR2).mono ?_;rintro e w3 ⟨v,rfl,ho3,hR3,hg3⟩;obtain⟨va,vc,rfl⟩:=Af ho3;have hsz:=hg'.size;have hb3:=hg3.own hb2 (by omega);have hc3:=hg3.own hc2 (by omega);have k1:=Ab hb3 1;have f1:=Ae hb3 1;have k0:=Ab hb3 0;have k2:=Ab hc3 0;have f2:=Ae hc3 0;have k3:=Ab hc3 1;have f3:=Ae hc3 1;simp at k0 k1 k2 k3;go_wp2_with fail
 refine bodyPost_ret (v:=.agg #[.int .i64 r1.1,.slice va r2.1.toNat vc]) (by simp[results,Tryz.results114,go_sem,k2,k3]) rfl ?_;refine⟨_,rfl,?_,((hR3.set (by simp;omega) _).set (by simp;omega) _).set (by simp;omega) _,(((hg'.trans hg3).set (.inl (by simp)) _).set (.inl (by simp)) _).set (.inl (by simp)) _⟩;unfold TysAt;rw[tys_len];exact Ba (ownsRow_setCell_below (ownsRow_setCell_below (ownsRow_setCell_below ho3 (by simp;omega) _) (by simp;omega) _) (by simp;omega) _) hsz
theorem Tryz.infoInt:(Tryz.prog.info? 3).map (fun i=>(i.zero,i.size,i.bytes))=some (some (.int .i64 0),1,8):=by kernel_rfl
theorem Tryz.infoHandler:(Tryz.prog.info? 219).map (fun i=>(i.zero,i.size,i.bytes))=some (some (.agg #[.int .i64 0,.int .i64 0,.int .i64 0,.int .i64 0]),4,32):=by kernel_rfl
theorem We (s:ByteArray) (B:Nat) (t:Rd.St) (w:World) (hs:s.size≤maxLen) (hR:RdAt w B s t) :
  Calls Tryz.prog 156 #[.pointer (some ⟨B,0,none⟩)] w fun e w' =>
   ∃ v,e=.returned v∧IntsAt w' w.heap.size v (Rd.codes s.data.toList t).1∧RdAt w' B s (Rd.codes s.data.toList t).2∧Gr B w w':=by
 have hlt:=hR.lt;obtain⟨i0,hi,hz0,hz1,hz2⟩:=info_parts Tryz.infoInt;unfold Rd.codes IntsAt;dsimp only;rw[Rd.rep_len];generalize hr:Rd.cn s.data.toList 1 120 t=r;have hbd:=Rd.cn_bd s.data.toList 1 120 t (by omega);rw[hr]at hbd;obtain⟨hbd0,hbd1⟩:=hbd;have H:=Ac hr;clear hr;go_enter Tryz.func156,Tryz.ntmps156;go_wp2_with fail
 refine(Ce s B 1 120 t _ hs hR).mono ?_;rw[Aa H];rintro e w0 ⟨rfl,hR0,hg0⟩;have hsz0:=hg0.size;go_wp2
 go_loopw [3,5] (fun v i wr=>∃ k:Nat,(k:Int)≤r.1∧i=.int .i64 k∧wr.ownsRow w.heap.size 3 1 v k ((Rd.rep (Rd.nx s.data.toList) k r.2).1.map (Value.int .i64))∧RdAt wr B s (Rd.rep (Rd.nx s.data.toList) k r.2).2∧Gr B w wr)
  (fun _ i _=>r.1.toNat-(intOf i).toNat)
 case atStart=>exact⟨0,by omega,rfl,World.ownsRow_nil _ _ _ _,hR0,hg0⟩
 case round =>
  obtain⟨k,hk,rfl,hown,hRr,hgr⟩:=hrel;have hsz:=hgr.size;by_cases hkn:(k:Int)<r.1
  ·generalize hp:Rd.rep (Rd.nx s.data.toList) k r.2=p at *;generalize hq:Rd.nx s.data.toList p.2=q at *;have HP:=Ac hp;have HQ:=Ac hq;clear hp hq;go_wp2_with fail
   refine(Bq s B p.2 _ hs hRr).mono ?_;rw[Aa HQ];rintro e w1 ⟨rfl,hR1,hg1⟩;have hsz1:=hg1.size;have hown1:=Kl hown hg1 hlt;go_wp2_with (at_builtin;refine wpList_append_own _ rfl _ _ 34 rfl w.heap.size 3 i0 _ 1 8 Tryz.underlying34 hi hz0 hz1 hz2 rfl (by decide) _ _ _ rfl (hown1.alloc _) ⟨w1.heap.size,0,none⟩ 1 1 [.int .i64 q.1] rfl rfl ?c1 ?c2 ?c3 ?c4 ?c5 ?_)
   case c1=>exact Au _ _ _ _ rfl
   case c2=>intro u hu;simp at hu;subst hu;rfl
   case c3=>unfold maxLen;omega
   case c4=>omega
   case c5=>simp;omega
   intro v' w2 hown2 hgrow _;have hR2:=(hR1.alloc _).grown hgrow (Hf hown1 hlt);have hg2:=((hgr.trans hg1).alloc _).grown hgrow (Gz hown1);have e1:(Rd.rep (Rd.nx s.data.toList) (k+1) r.2)=(p.1++[q.1],q.2):=by simp only[Rd.rep,Aa HP,Aa HQ]
   have hown3:w2.ownsRow w.heap.size 3 1 v' (k+1) ((p.1++[q.1]).map (Value.int .i64)):=by simpa using hown2
   have HE:=Ac e1;clear e1 hgrow hown hown1 hown2 hRr hR1 hg1 hgr;go_wp2
   go_roundw
   case rel=>exact⟨k+1,by omega,by go_num,by rw[Aa HE];exact hown3,by rw[Aa HE];exact hR2,hg2⟩
   case measure=>simp[intOf];omega
  ·have e:k=r.1.toNat:=by omega
   subst e;go_wp2;go_ret;exact⟨_,rfl,hown,hRr,hgr⟩
theorem Oi (s:ByteArray) (B:Nat) (t:Rd.St) (w:World) (hs:s.size≤maxLen) (hR:RdAt w B s t) :
  Calls Tryz.prog 157 #[.pointer (some ⟨B,0,none⟩)] w fun e w' =>
   ∃ v,e=.returned v∧HndsAt w' w.heap.size v (Rd.hnds s.data.toList t).1∧RdAt w' B s (Rd.hnds s.data.toList t).2∧Gr B w w':=by
 have hlt:=hR.lt;obtain⟨i0,hi,hz0,hz1,hz2⟩:=info_parts Tryz.infoHandler;unfold Rd.hnds HndsAt;dsimp only;rw[Rd.rep_len];generalize hr:Rd.cn s.data.toList 0 4 t=r;have hbd:=Rd.cn_bd s.data.toList 0 4 t (by omega);rw[hr]at hbd;obtain⟨hbd0,hbd1⟩:=hbd;have H:=Ac hr;clear hr;go_enter Tryz.func157,Tryz.ntmps157;go_wp2_with fail
 refine(Ce s B 0 4 t _ hs hR).mono ?_;rw[Aa H];rintro e w0 ⟨rfl,hR0,hg0⟩;have hsz0:=hg0.size;go_wp2
 go_loopw [3,5] (fun v i wr=>∃ k:Nat,(k:Int)≤r.1∧i=.int .i64 k∧wr.ownsRow w.heap.size 219 4 v k (Bb (Rd.rep (Rd.hnd s.data.toList) k r.2).1)∧RdAt wr B s (Rd.rep (Rd.hnd s.data.toList) k r.2).2∧Gr B w wr)
  (fun _ i _=>r.1.toNat-(intOf i).toNat)
 case atStart=>exact⟨0,by omega,rfl,World.ownsRow_nil _ _ _ _,hR0,hg0⟩
 case round =>
  obtain⟨k,hk,rfl,hown,hRr,hgr⟩:=hrel;have hsz:=hgr.size;by_cases hkn:(k:Int)<r.1
  ·generalize hp:Rd.rep (Rd.hnd s.data.toList) k r.2=p at *;generalize hq1:Rd.nx s.data.toList p.2=q1;generalize hq2:Rd.nx s.data.toList q1.2=q2;generalize hq3:Rd.nx s.data.toList q2.2=q3;generalize hq4:Rd.nx s.data.toList q3.2=q4;have HQ:Hid (Rd.hnd s.data.toList p.2=(⟨q1.1,q2.1,q3.1,q4.1⟩,q4.2)):=by
    unfold Hid Rd.hnd;simp only[hq1,hq2,hq3,hq4]
   have HP:=Ac hp;have HQ1:=Ac hq1;have HQ2:=Ac hq2;have HQ3:=Ac hq3;have HQ4:=Ac hq4;clear hp hq1 hq2 hq3 hq4;have hne:wr.heap.size≠B:=by omega
   go_wp2_with fail
   refine(Bq s B p.2 _ hs (hRr.alloc _)).mono ?_;rw[Aa HQ1];rintro e w1 ⟨rfl,hR1,hg1⟩;have hG1:=((Gr.refl B wr).alloc _).trans hg1;have hb1:=hg1.own (Ad wr _) hne;have c0:=Ab hb1 0;have f0:=Ae hb1 0;simp at c0;go_wp2_with fail
   clear c0 f0;refine(Bq s B q1.2 _ hs (hR1.set (by simp;omega) _)).mono ?_;rw[Aa HQ2];rintro e w2 ⟨rfl,hR2,hg2⟩;have hG2:=(hG1.set (.inl (by simp)) _).trans hg2;have hb2:=hg2.own (Ai hb1 _) hne;simp at hb2;have c1:=Ab hb2 1;have f1:=Ae hb2 1;simp at c1;go_wp2_with fail
   clear c1 f1;refine(Bq s B q2.2 _ hs (hR2.set (by simp;omega) _)).mono ?_;rw[Aa HQ3];rintro e w3 ⟨rfl,hR3,hg3⟩;have hG3:=(hG2.set (.inl (by simp)) _).trans hg3;have hb3:=hg3.own (Ai hb2 _) hne;simp at hb3;have c2:=Ab hb3 2;have f2:=Ae hb3 2;simp at c2;go_wp2_with fail
   clear c2 f2;refine(Bq s B q3.2 _ hs (hR3.set (by simp;omega) _)).mono ?_;rw[Aa HQ4];rintro e w4 ⟨rfl,hR4,hg4⟩;have hG4:=(hG3.set (.inl (by simp)) _).trans hg4;have hb4:=hg4.own (Ai hb3 _) hne;simp at hb4;obtain⟨c0,c1,c2,c3⟩:=cl4 hb4;have f3:=Ae hb4 3;simp at c0 c1 c2 c3;have hG5:=hG4.set (p:=⟨wr.heap.size,3,none⟩) (.inl (by simp)) (.int .i64 q4.1);have hown1:=Kl hown hG5 hlt;have hR5:=hR4.set (p:=⟨wr.heap.size,3,none⟩) (by simp;omega) (.int .i64 q4.1);have hsz5:=hG5.size;clear hb1 hb2 hb3 hb4 hg1 hg2 hg3 hg4 hG1 hG2 hG3 hG4 hR1 hR2 hR3 hR4;go_wp2_with (at_builtin;refine wpList_append_own _ rfl _ _ 91 rfl w.heap.size 219 i0 _ 4 32 Tryz.underlying91 hi hz0 hz1 hz2 rfl (by decide) _ _ _ rfl (hown1.alloc _) ⟨w4.heap.size,0,none⟩ 1 1 [.int .i64 q1.1,.int .i64 q2.1,.int .i64 q3.1,.int .i64 q4.1] rfl rfl ?c1 ?c2 ?c3 ?c4 ?c5 ?_)
   case c1=>exact Au _ _ _ _ (by simp)
   case c2=>intro u hu;simp at hu;rcases hu with rfl | rfl | rfl | rfl<;>rfl
   case c3=>unfold maxLen;omega
   case c4=>omega
   case c5=>simp at hsz5 ⊢;omega
   intro v' w5 hown2 hgrow _;have hR6:=(hR5.alloc _).grown hgrow (Hf hown1 hlt);have hg6:=((hgr.trans hG5).alloc _).grown hgrow (Gz hown1);have e1:(Rd.rep (Rd.hnd s.data.toList) (k+1) r.2)=(p.1++[⟨q1.1,q2.1,q3.1,q4.1⟩],q4.2):=by simp only[Rd.rep,Aa HP,Aa HQ]
   have hown3:w5.ownsRow w.heap.size 219 4 v' (k+1) (Bb (p.1++[⟨q1.1,q2.1,q3.1,q4.1⟩])):=by rw[I8];exact hown2
   have HE:=Ac e1;clear e1 hgrow hown hown1 hown2 hRr hR5 hG5 hgr c0 c1 c2 c3 f3;go_wp2
   go_roundw
   case rel=>exact⟨k+1,by omega,by go_num,by rw[Aa HE];exact hown3,by rw[Aa HE];exact hR6,hg6⟩
   case measure=>simp[intOf];omega
  ·have e:k=r.1.toNat:=by omega
   subst e;go_wp2;go_ret;exact⟨_,rfl,hown,hRr,hgr⟩
theorem Tryz.infoMap:(Tryz.prog.info? 218).map (fun i=>(i.zero,i.size,i.bytes))=some (some (.agg #[.int .i64 0,.slice none 0 0,.slice none 0 0]),3,56):=by kernel_rfl
theorem Wt (s:ByteArray) (B:Nat) (L H:Int) (t:Rd.St) (w:World) (hs:s.size≤maxLen) (hL0:0≤L) (hL1:L≤8) (hH0:0≤H) (hH1:H≤8) (hR:RdAt w B s t) :
  Calls Tryz.prog 158 #[.pointer (some ⟨B,0,none⟩),.int .i64 L,.int .i64 H] w fun e w' =>
   ∃ v l,e=.returned v∧l.map Prod.fst=(Rd.mps s.data.toList L H t).1∧MpsIn w' w.heap.size v l∧RdAt w' B s (Rd.mps s.data.toList L H t).2∧Gr B w w':=by
 have hlt:=hR.lt;obtain⟨i0,hi,hz0,hz1,hz2⟩:=info_parts Tryz.infoMap;unfold Rd.mps;dsimp only;generalize hr:Rd.cn s.data.toList 0 64 t=r;have hbd:=Rd.cn_bd s.data.toList 0 64 t (by omega);rw[hr]at hbd;obtain⟨hbd0,hbd1⟩:=hbd;have HR:=Ac hr;clear hr;go_enter Tryz.func158,Tryz.ntmps158;go_wp2_with fail
 refine(Ce s B 0 64 t _ hs hR).mono ?_;rw[Aa HR];rintro e w0 ⟨rfl,hR0,hg0⟩;have hsz0:=hg0.size;go_wp2
 go_loopw [7,9] (fun v i wr=>∃ (k:Nat) (l:List (Rd.Mp × Value × Value)),(k:Int)≤r.1∧i=.int .i64 k∧l.length=k∧l.map Prod.fst=(Rd.rep (Rd.mp s.data.toList L H) k r.2).1∧MpsIn wr w.heap.size v l∧RdAt wr B s (Rd.rep (Rd.mp s.data.toList L H) k r.2).2∧Gr B w wr)
  (fun _ i _=>r.1.toNat-(intOf i).toNat)
 case atStart=>exact⟨0,[],by omega,rfl,rfl,rfl,⟨World.ownsRow_nil _ _ _ _,by simp⟩,hR0,hg0⟩
 case round =>
  obtain⟨k,l,hk,rfl,hlen,hmap,hms,hRr,hgr⟩:=hrel;have hsz:=hgr.size;by_cases hkn:(k:Int)<r.1
  ·generalize hp:Rd.rep (Rd.mp s.data.toList L H) k r.2=p at *;generalize hq1:Rd.nx s.data.toList p.2=q1;generalize hq2:Rd.tys s.data.toList L.toNat q1.2=q2;generalize hq3:Rd.cn s.data.toList 0 H q2.2=q3;generalize hq4:Rd.tys s.data.toList q3.1.toNat q3.2=q4;have l2:q2.1.length=L.toNat:=by rw[← hq2];exact tys_len _ _ _
   have l4:q4.1.length=q3.1.toNat:=by rw[← hq4];exact tys_len _ _ _
   have hb3:=Rd.cn_bd s.data.toList 0 H q2.2 hH0;rw[hq3]at hb3;obtain⟨hb30,hb31⟩:=hb3;have HQ:Hid (Rd.mp s.data.toList L H p.2=(⟨q1.1,q2.1,q4.1⟩,q4.2)):=by
    unfold Hid Rd.mp;simp only[hq1,hq2,hq3,hq4]
   have HP:=Ac hp;have HQ1:=Ac hq1;have HQ2:=Ac hq2;have HQ3:=Ac hq3;have HQ4:=Ac hq4;have HL2:=Ac l2;have HL4:=Ac l4;have HLen:=Ac hlen;have HMap:=Ac hmap;clear hp hq1 hq2 hq3 hq4 l2 l4 hlen hmap;have hne:wr.heap.size≠B:=by omega
   go_wp2_with fail
   refine(Bq s B p.2 _ hs (hRr.alloc _)).mono ?_;rw[Aa HQ1];rintro e w1 ⟨rfl,hR1,hg1⟩;have hG1:=((Gr.refl B wr).alloc _).trans hg1;have hb1:=hg1.own (Ad wr _) hne;have s1:=hg1.size;simp at s1;have c0:=Ab hb1 0;have f0:=Ae hb1 0;simp at c0;go_wp2_with fail
   clear c0 f0;refine(Gp s B L q1.2 _ hs hL0 (by omega) (hR1.set (by simp;omega) _)).mono ?_;rw[Aa HQ2];rintro e w2 ⟨v1,rfl,ho1,hR2,hg2⟩;obtain⟨va,vc,rfl⟩:=Af ho1;have hG2:=(hG1.set (.inl (by simp)) _).trans hg2;have hb2:=hg2.own (Ai hb1 _) hne;simp at hb2;have c1:=Ab hb2 1;have f1:=Ae hb2 1;simp at c1;have ht1:TysAt w2 w.heap.size (.slice va L.toNat vc) q2.1:=by
    unfold TysAt;rw[Aa HL2];exact Ba ho1 (by simp;omega)
   clear ho1;go_wp2_with fail
   clear c1 f1;refine(Ce s B 0 H q2.2 _ hs (hR2.set (by simp;omega) _)).mono ?_;rw[Aa HQ3];rintro e w3 ⟨rfl,hR3,hg3⟩;have hG3:=(hG2.set (.inl (by simp)) _).trans hg3;have hb3':=hg3.own (Ai hb2 _) hne;simp at hb3';have ht2:=(ht1.kp (Kp.set (i:=1) hb2 (.slice va L.toNat vc)) (by decide)).kp (Kp.of_gr (e:=none) hg3 hlt) (by decide);clear ht1;go_wp2_with fail
   refine(Gp s B q3.1 q3.2 _ hs hb30 (by omega) hR3).mono ?_;rw[Aa HQ4];rintro e w4 ⟨v2,rfl,ho2,hR4,hg4⟩;obtain⟨vb,vd,rfl⟩:=Af ho2;have hG4:=hG3.trans hg4;have hb4:=hg4.own hb3' hne;have ht3:=ht2.kp (Kp.of_gr (e:=none) hg4 hlt) (by decide);have s3:=hG3.size;have ht4:TysAt w4 w.heap.size (.slice vb q3.1.toNat vd) q4.1:=by
    unfold TysAt;rw[Aa HL4];exact Ba ho2 (by omega)
   clear ho2 ht2;obtain⟨c0,c1,c2⟩:=cl3 hb4;have f2:=Ae hb4 2;simp at c0 c1 c2;have hK:=Kp.set (b:=w.heap.size) (i:=2) hb4 (.slice vb q3.1.toNat vd);have hG5:=hG4.set (p:=⟨wr.heap.size,2,none⟩) (.inl (by simp)) (.slice vb q3.1.toNat vd);have hown1:=Kl hms.1 hG5 hlt;have hms1:=fun p hp=>And.intro ((hms.2 p hp).1.kp (Kp.of_gr (e:=none) hG5 hlt) (by decide)) ((hms.2 p hp).2.kp (Kp.of_gr (e:=none) hG5 hlt) (by decide));have ht5:=ht3.kp hK (by decide);have ht6:=ht4.kp hK (by decide);have hR5:=hR4.set (p:=⟨wr.heap.size,2,none⟩) (by simp;omega) (.slice vb q3.1.toNat vd);have hsz5:=hG5.size;have HMs1:=Ac hms1;clear hms1 hb1 hb2 hb3' hb4 hg1 hg2 hg3 hg4 hG1 hG2 hG3 hG4 hR1 hR2 hR3 hR4 ht3 ht4 hK;go_wp2_with (at_builtin;refine wpList_append_own _ rfl _ _ 92 rfl w.heap.size 218 i0 _ 3 56 Tryz.underlying92 hi hz0 hz1 hz2 rfl (by decide) _ _ _ rfl (hown1.alloc _) ⟨w4.heap.size,0,none⟩ 1 1 [.int .i64 q1.1,.slice va L.toNat vc,.slice vb q3.1.toNat vd] rfl rfl ?c1 ?c2 ?c3 ?c4 ?c5 ?_)
   case c1=>exact Au _ _ _ _ (by simp)
   case c2=>intro u hu;simp at hu;rcases hu with rfl | rfl | rfl<;>rfl
   case c3=>have:=Aa HLen;unfold maxLen;omega
   case c4=>have:=Aa HLen;omega
   case c5=>simp at hsz5 ⊢;omega
   intro v' w5 hown2 hgrow _;have hR6:=(hR5.alloc _).grown hgrow (Hf hown1 hlt);have hg6:=((hgr.trans hG5).alloc _).grown hgrow (Gz hown1);have hK:=(Kp.alloc (e:=some 218) (b:=w.heap.size) _ _).trans (Kp.of_grown hgrow (hown1.alloc _));have hms5:MpsIn w5 w.heap.size v' (l++[(⟨q1.1,q2.1,q4.1⟩,.slice va L.toNat vc,.slice vb q3.1.toNat vd)]):=by
    refine⟨?_,?_⟩
    ·rw[Gx,List.length_append];exact hown2
    ·intro p hp;rw[List.mem_append]at hp;rcases hp with hp | hp
     ·exact⟨(Aa HMs1 p hp).1.kp hK (by decide),(Aa HMs1 p hp).2.kp hK (by decide)⟩
     ·simp only[List.mem_singleton]at hp;subst hp;exact⟨ht5.kp hK (by decide),ht6.kp hK (by decide)⟩
   have e1:(Rd.rep (Rd.mp s.data.toList L H) (k+1) r.2)=(p.1++[⟨q1.1,q2.1,q4.1⟩],q4.2):=by simp only[Rd.rep,Aa HP,Aa HQ]
   have HE:=Ac e1;have HK:=Ac hK;clear e1 hgrow hown1 hown2 hRr hR5 hG5 hgr c0 c1 c2 f2 hK ht5 ht6 hms;go_wp2
   go_roundw
   case rel=>exact⟨k+1,_,by omega,by go_num,by rw[List.length_append,Aa HLen];rfl,by rw[Aa HE,List.map_append,Aa HMap];rfl,hms5,by rw[Aa HE];exact hR6,hg6⟩
   case measure=>simp[intOf];omega
  ·have e:k=r.1.toNat:=by omega
   subst e;go_wp2;go_ret;exact⟨_,rfl,l,hmap,hms,hRr,hgr⟩
end Go.Proofs.YtcefiamkoincoaaGreat
