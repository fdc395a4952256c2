/- the proof's parts -/
import Derived.Test.YtpcgnjolfahacaaGreatRows
import Derived.WalkKit
import Derived.WalkSpells
import Derived.WalkLawsBesides
import Derived.Deep.QuietTactic
import Derived.BigQuiet
import Derived.Deep.RegionHeld3
import Derived.Laws.AppendOwnNone
import Derived.Laws.IdiomStrings
import Derived.Deep.RegionHeld
import Derived.Deep.Cut
import Derived.Deep.CutRange
import Derived.Maps.AppendAt
import Derived.Laws.Rows
import Derived.Laws.Tables
import Derived.Laws.MakeOwn
import Derived.Deep.MidRow
import Derived.Deep.Slices
import Derived.Deep.Strs
import Derived.ProofKit
import Derived.OpenShut
import Derived.ShutString
import Derived.ChangeOld
import Derived.ChangeSlices
import Derived.Below
import Derived.Lib.SmallJoins
import Derived.Laws.OwnMore
import Derived.Deep.RegionLaw
import Derived.Laws.CopyRow
import Derived.Laws.CopyOwn
import Derived.OwnWalk
import Derived.ChangeMaps5
set_option maxRecDepth 100000
set_option maxHeartbeats 40000000
set_option linter.unusedVariables false
set_option linter.unusedSimpArgs false
set_option linter.defProp false
set_option linter.defProp false
abbrev Option.p(k:Nat):Option Go.Addr:=some ⟨k,0,none⟩
namespace Go
abbrev Value.i(n:Int):Value:=.int .i64 n
abbrev Value.s(a:Option Addr)(n c:Nat):Value:=.slice a n c
abbrev TypeDesc.s:=@TypeDesc.slice
abbrev Value.q(b i:Nat):Value:=.pointer (some ⟨b,i,none⟩)
abbrev Ending.r(v:Value):Ending:=.returned v
abbrev Addr.a(b i:Nat):Addr:=⟨b,i,none⟩
abbrev World.C(w:World)(b i:Nat)(v:Value):Prop:=w.cell? ⟨b,i,none⟩=some v
end Go
namespace Go.Proofs.YtpcgnjolfahacaaGreat
open Go.RowKit
abbrev TP:=List (Int × Int)
abbrev TB:=List UInt8
abbrev TA:=Option Addr
abbrev TI:=List Int
abbrev TV:=List Value
abbrev TW:=World
abbrev TX:=Value
theorem tb{P:Program}{fn:Func}{R:Ending→World→Prop}{a:Act}{w:World}(v:Value)(hr:(results fn a.tmps).run P w=.ok v w)(hR:R (.returned v) w)(hd:a.defers=[]:=by rfl):bodyPost P fn R .ret a w:=bodyPost_ret hr hd hR
abbrev Bl(w w':World):Prop:=Below w.heap.size w w'
theorem Qm{P:Program}{f:FuncId}{a:Array Value}{w:World}{v:Ending}{T:World→Prop}{R:Ending→World→Prop}(h:Calls P f a w (fun e x=>e=v∧T x))(k:∀ x,T x→R v x):Calls P f a w R:=h.mono (fun _ _ ⟨z,y⟩=>z▸k _ y)
theorem Qb{P:Program}{f:FuncId}{a:Array Value}{u w:World}{v:Ending}{R:Ending→World→Prop}(h:Calls P f a w (fun e x=>e=v∧Below w.heap.size w x))(g:Below u.heap.size u w)(k:∀ x,Below w.heap.size w x→Below u.heap.size u x→R v x):Calls P f a w R:=Qm h (fun _ y=>k _ y (g.trans (y.mono g.size)))
theorem Bd{p:Prop}(h:p:=by omega):p:=h
theorem Ck{p:Prop}(h:p:=by decide):p:=h
theorem Fm{p:Prop}(h:p:=by simp;omega):p:=h
theorem Fr{p:Prop}(h:p:=by simp):p:=h
theorem Hd{p:Prop}(h:p:=by rfl):p:=h
theorem Le{p:Prop}(h:p:=by kernel_rfl):p:=h
theorem Ls{p:Prop}(h:p:=by simp only;omega):p:=h
theorem Lt{p:Prop}(h:p:=by go_num):p:=h
theorem Mc{p:Prop}(h:p:=by unfold maxLen;omega):p:=h
def Pf:=@if_neg
def Pk:=@lt_of_block
def Sp:=@if_pos
def Th:=@List.getD_eq_getElem?_getD
def Up:=@List.length_append
def Wr:=@List.drop_eq_getElem_cons
def Ws:=@List.getElem?_eq_getElem
def Vm:=@Below.refl
def Wf:=@Nat.le_refl
def Bvg:=@Below.heap_setCell
def Bvh:=@List.getElem_mem
def Bvi:=@List.drop_eq_nil_of_le
def Bvj:=@World.cell?_of_block
def Bvk:=@Int.eq_ofNat_of_zero_le
def Bvl:=@World.ownsRow_nil
def Bvm:=@Nat.lt_of_lt_of_le
def Bvn:=@Int.toNat_natCast
def Bvo:=@List.length_cons
def Bvq:=@Below.setCell
def Bvp:=@Nat.zero_add
def Bvr:=@List.length_map
def Bvs:=@List.take_succ_eq_append_getElem
def Bvt:=@List.getElem?_append_right
def Bvu:=@Below.heap_alloc
def Bvv:=@Nat.le_trans
def Bvw:=@wpList_append_own
def Bvx:=@List.map_append
def Bvy:=@List.getElem?_append_left
def Bv0:=@List.take_of_length_le
def Bv1:=@List.mem_cons_self
def Bv2:=@Tryz.underlying212
def Bv3:=@AllReadyH.cons
def Bv4:=@info_parts
def Bv5:=@Nat.zero_le
def Bv6:=@List.mem_cons_of_mem
def Bv7:=@List.length_set
def Bv8:=@List.getElem?_map
def Bwa:=@List.mem_map_of_mem
def Bwb:=@and_true
def Bwc:=@List.eq_nil_of_length_eq_zero
def Bwd:=@wpList_load_row
def Bwe:=@List.append_assoc
def Bwf:=@List.set_cons_succ
def Bwg:=@World.cell?_alloc_lt
def Bwi:=@List.getElem?_cons_succ
def Bwj:=@List.flatMap_cons
def Bwk:=@Bool.and_eq_true
def Bwh:=@Nat.zero_mul
def Bwl:=@List.flatMap_append
def Bv9:=@wpAnyH_done
def Bwm:=@List.map_cons
def Bwn:=@List.length_nil
def Bwo:=@Int.toNat_of_nonneg
def Bvz:=@wp_region_held_drew
def Bwp:=@decide_eq_true_eq
def Bwq:=@Tryz.underlying105
def Bws:=@List.cons_append
def Bwt:=@List.mem_append
def Bwu:=@Below.alloc
def Bwv:=@List.mem_of_getElem?
def Bww:=@List.getElem?_take
def Bwy:=@bodyPost_ret
def Bwz:=@List.getElem?_eq_none
def Bw0:=@List.length_singleton
def Bw1:=@List.set_append_right
def Bw2:=@AllReadyH.nil
def Bwr:=@Nat.le_of_lt
def Bw3:=@Array.size_push
def Bw4:=@List.sublist_cons_self
def Bw5:=@List.Sublist.cons_cons
def Bw6:=@List.mem_or_eq_of_mem_set
def Bw7:=@wpAnyH_ready
def Bw8:=@List.filterMap_cons_some
def Bw9:=@results_none
def Bwx:=@decide_eq_false
def Bxa:=@List.mem_singleton
def Bxb:=@decide_eq_false_iff_not
def Bxc:=@Ne.symm
def Bxd:=@Prod.ext
def Bxe:=@List.mem_of_mem_drop
def Bxf:=@List.length_take
def Bxg:=@wpList_append_own_at
def Bxh:=@And.intro
def Bxi:=@List.getElem?_set
def Bxj:=@List.reverse_cons
def Bxk:=@if_false
def Bxl:=@List.append_nil
def Bxm:=@List.take_append_drop
def Bxn:=@Bool.true_and
def Bxo:=@Bool.or_eq_false_iff
def Bxq:=@List.getElem?_cons_zero
def Bxr:=@Nat.add_sub_cancel_left
def Bxs:=@Tryz.underlying26
def Bxt:=@List.getElem_cons_zero
def Bxu:=@List.take_take
def Bxv:=@List.filterMap_cons_none
def Bxw:=@List.getElem?_set_ne
def Bxx:=@Int.ofNat_eq_natCast
def Bxy:=@List.mem_cons
def Bxz:=@List.drop_append_of_le_length
def Bxp:=@decide_eq_true
def Bx0:=@Bool.false_and
def Bx1:=@Option.bind_some
def Bx2:=@List.getElem?_set_self
def Bx3:=@ownsRow_setCell_below
def Bx4:=@List.nil_append
def Bx5:=@Nat.min_eq_left
def Bx6:=@Array.getElem?_eq_getElem
def Bx7:=@List.set_append_left
def Bx9:=@List.not_mem_nil
def Byb:=@List.any_cons
def Byc:=@Nat.add_assoc
def Byd:=@Tryz.results186
def Bye:=@Bool.false_eq_true
def Byf:=@wpAnyH_take
def Bx8:=@Nat.one_mul
def Byg:=@List.take_append_of_le_length
def Byh:=@List.getElem?_toArray
def Byi:=@Tryz.results22
def Byj:=@List.map_set
def Byk:=@List.take_length
def Byl:=@true_and
def Bym:=@Tryz.underlying3
def Byn:=@Array.toList_setIfInBounds
def Byo:=@Int.le_refl
def Byp:=@beq_eq_false_iff_ne
def Byq:=@List.take_succ_cons
def Bya:=@all_oneCell_toArray
def Byr:=@List.Sublist.append
def Bys:=@Tryz.results179
def Byt:=@Tryz.results163
def Byu:=@World.cell?_setCell_other
def Byw:=@List.set_cons_zero
def Byx:=@Nat.sub_self
def Byy:=@Tryz.underlying152
def Byz:=@List.map_nil
def By0:=@Tryz.underlying116
def By1:=@Tryz.results87
def By2:=@Below.drew
def By3:=@if_true
def By4:=@List.getElem?_replicate
def By5:=@List.set_eq_take_append_cons_drop
def By6:=@List.any_eq_true
def By7:=@Array.getElem?_setIfInBounds_ne
def By8:=@Tryz.results138
def By9:=@beq_iff_eq
def Bza:=@Nat.succ_mul
def Bzb:=@Tryz.results162
def Bzc:=@Tryz.results106
def Bzd:=@List.replicate_succ'
def Bze:=@Nat.mul_le_mul_right
def Bzf:=@List.set_set
def Bzg:=@Nat.add_zero
def Bzh:=@Int.natCast_add
def Bzi:=@List.drop_succ_cons
def Bzj:=@World.rangeAt_alloc
def Bzk:=@List.length_reverse
def Bzl:=@Tryz.results67
def Bzm:=@Tryz.results56
def Bzn:=@DataW.trod_int
def Bzo:=@List.Perm.cons
def Bzp:=@Option.isSome_none
def Bzq:=@Nat.lt_of_le_of_lt
def Bzr:=@Nat.add_sub_cancel
def Bzs:=@List.append_of_mem
def Bzt:=@Tryz.underlying113
def Bzu:=@List.pairwise_cons
def Bzv:=@List.take_set
def Bzw:=@List.setIfInBounds_toArray
def Bzx:=@Int.tmod_eq_emod_of_nonneg
def Bzy:=@List.ext_getElem?
def Bzz:=@Result.andThen_ok
def Bz0:=@List.Sublist.refl
def Bz1:=@List.extract_eq_take_drop
def Bz2:=@or_false
def Bz3:=@Addr.add_lit
def Bz4:=@List.ext_getElem
def Bz5:=@setRow_other
def Bz6:=@List.map_map
def Bz7:=@Option.getD_some
def Bz9:=@List.flatMap_nil
def B0a:=@World.cell?_setCell_far
def B0b:=@List.getLast?_singleton
def B0c:=@Tryz.results105
def B0d:=@Tryz.results216
def B0e:=@Bool.or_eq_true
def B0f:=@Tryz.results292
def B0g:=@Tryz.results129
def B0h:=@Tryz.results168
def Byv:=@Tryz.results111
def B0i:=@Tryz.results131
def B0j:=@ByteArray.data_extract
def B0k:=@wpList_append_own_none
def B0l:=@setRow_size
def B0m:=@List.zipWith_cons_cons
def B0n:=@Tryz.results68
def B0o:=@Tryz.results45
def B0p:=@Tryz.results53
def B0q:=@List.length_replicate
def B0r:=@Classical.choose_spec
def B0s:=@Tryz.results14
def B0t:=@Tryz.results21
def B0u:=@List.getElem_set_self
def B0v:=@Array.toList_extract
def B0w:=@List.mem_of_mem_take
def B0x:=@List.reverse_reverse
def B0y:=@List.getLast?_append
def B0z:=@List.dropLast_concat
def B00:=@List.all_cons
def B01:=@List.getD_cons_succ
def B02:=@List.getElem_of_mem
def B03:=@Sem.run_bind
def B04:=@Sem.run_pure
def B05:=@setRow_heap
def B06:=@Nat.mul_one
end Go.Proofs.YtpcgnjolfahacaaGreat
namespace Go.Proofs.YtpcgnjolfahacaaGreat
open Go.RowKit Go.Proofs.Tryz
variable{G:Array Value}{s:ByteArray}{c:Int}{k n u:Nat}{e:Option TypeId}{D:TB}{z:TI}{b w:TW}{i:TX}{g:TypeId}
namespace Rd
structure St where
 pos:Nat
 bad:Bool
def nx (s:TB)(t:St):Int × St :=
 if t.bad=true then (0,⟨t.pos,true⟩)
 else if s.length<=t.pos then (0,⟨t.pos,true⟩)
 else (((s[t.pos]?.getD 0).toNat:Int),⟨t.pos+1,false⟩)
def ex (s:TB)(b:Int)(t:St):St :=
 if (nx s t).1=b then (nx s t).2 else ⟨(nx s t).2.pos,true⟩
def cn (s:TB)(least most:Int)(t:St):Int × St :=
 if (nx s t).1<least then (0,⟨(nx s t).2.pos,true⟩)
 else if most<(nx s t).1 then (0,⟨(nx s t).2.pos,true⟩)
 else nx s t
def ty (s:TB)(t:St):(Int × Int) × St :=
 (((nx s t).1,(nx s (nx s t).2).1),(nx s (nx s t).2).2)
def rep {α:Type}(f:St->α × St):Nat->St->List α × St
 | 0,t=>([],t)
 | k+1,t=>((rep f k t).1++[(f (rep f k t).2).1],(f (rep f k t).2).2)
def rep_len{α:Type}(f:St->α×St)(n:Nat)(t:St):(rep f n t).1.length=n:=by
 induction n with
 | zero=>rfl
 | succ k ih=>simp[rep,ih]
def tys (s:TB)(n:Nat)(t:St):List (Int × Int) × St:=rep (ty s) n t
structure Cls where
 above:Int
 fields:List (Int × Int)
def cls (s:TB)(t:St):Cls × St :=
 let a:=nx s t
 let n:=cn s 0 4 a.2
 let l:=tys s n.1.toNat n.2
 (⟨a.1,l.1⟩,l.2)
def codes(s:TB)(t:St):List Int × St :=
 let n:=cn s 1 120 t
 rep (nx s) n.1.toNat n.2
structure Hnd where
 frm:Int
 til:Int
 target:Int
 cl:Int
def hnd (s:TB)(t:St):Hnd × St :=
 let a:=nx s t
 let b:=nx s a.2
 let c:=nx s b.2
 let d:=nx s c.2
 (⟨a.1,b.1,c.1,d.1⟩,d.2)
def hnds (s:TB)(t:St):List Hnd × St :=
 let n:=cn s 0 4 t
 rep (hnd s) n.1.toNat n.2
structure Mp where
 place:Int
 locals:List (Int × Int)
 stack:List (Int × Int)
def mp (s:TB)(locals stack:Int)(t:St):Mp × St :=
 let a:=nx s t
 let l:=tys s locals.toNat a.2
 let h:=cn s 0 stack l.2
 let k:=tys s h.1.toNat h.2
 (⟨a.1,l.1,k.1⟩,k.2)
def mps (s:TB)(locals stack:Int)(t:St):List Mp × St :=
 let n:=cn s 0 64 t
 rep (mp s locals stack) n.1.toNat n.2
structure Mth where
 cl:Int
 name:Int
 params:List (Int × Int)
 result:Int × Int
 locals:Int
 stack:Int
 code:List Int
 handlers:List Hnd
 maps:List Mp
def mth (s:TB)(t:St):Mth × St :=
 let a:=nx s t
 let b:=nx s a.2
 let p:=cn s 0 4 b.2
 let ps:=tys s p.1.toNat p.2
 let r:=ty s ps.2
 let l:=cn s 0 8 r.2
 let h:=cn s 0 8 l.2
 let c:=codes s h.2
 let hs:=hnds s c.2
 let ms:=mps s l.1 h.1 hs.2
 (⟨a.1,b.1,ps.1,r.1,l.1,h.1,c.1,hs.1,ms.1⟩,ms.2)
structure Fil where
 classes:List Cls
 methods:List Mth
def fil (s:TB)(t:St):Fil × St :=
 let a:=ex s 83 t
 let b:=ex s 77 a
 let n:=cn s 0 6 b
 let cs:=rep (cls s) n.1.toNat n.2
 let m:=cn s 1 6 cs.2
 let ms:=rep (mth s) m.1.toNat m.2
 (⟨cs.1,ms.1⟩,ms.2)
def nx_bd(s:TB)(t:St):0<=(nx s t).1/\(nx s t).1<=255:=by
 unfold nx
 split
 ·simp
 split
 ·simp
 have:=(s[t.pos]?.getD 0).toNat_lt
 constructor<;>simp<;>omega
def cn_bd(s:TB)(a b:Int)(t:St)(c:0<=b):0<=(cn s a b t).1/\(cn s a b t).1<=b:=by
 have:=nx_bd s t;unfold cn
 split
 ·simp[c]
 split
 ·simp[c]
 constructor<;>omega
end Rd
abbrev O0(a0:ByteArray)(a1:Int)(a2:Bool):Obj:=.cells #[.string a0,.int .i64 a1,.bool a2] 177
abbrev O1(a0:Option Addr)(a1 a2:Nat)(a3:Option Addr)(a4 a5:Nat):Obj:=.cells #[.slice a0 a1 a2,.slice a3 a4 a5] 84
abbrev O2(a0:Option Addr)(a1 a2:Nat)(a3:Option Addr)(a4 a5:Nat):Obj:=.cells #[.slice a0 a1 a2,.slice a3 a4 a5] 128
abbrev O3(a0:Option Addr)(a1 a2:Nat)(a3:Option Addr)(a4 a5:Nat)(a6:Option Addr)(a7 a8:Nat)(a9:Option Addr)(a10 a11:Nat)(a12:Option Addr)(a13 a14:Nat)(a15:Option Addr)(a16 a17:Nat)(a18:Option Addr)(a19 a20:Nat):Obj:=.cells #[.slice a0 a1 a2,.slice a3 a4 a5,.slice a6 a7 a8,.slice a9 a10 a11,.slice a12 a13 a14,.slice a15 a16 a17,.slice a18 a19 a20] 105
abbrev O4(a0:Int):Obj:=.cells #[.int .i64 a0] 3
abbrev O5(a0:Int)(a1:Option Addr)(a2 a3:Nat):Obj:=.cells #[.int .i64 a0,.slice a1 a2 a3] 139
abbrev O6(a0:Option Addr)(a1 a2:Nat):Obj:=.cells #[.slice a0 a1 a2] 105
abbrev O7(a0 a1:Int):Obj:=.cells #[.int .i64 a0,.int .i64 a1] 31
abbrev O8(a0 a1 a2:Int):Obj:=.cells #[.int .i64 a0,.int .i64 a1,.int .i64 a2] 86
abbrev O9(a0:Int)(a1:Option Addr)(a2 a3:Nat)(a4:Option Addr)(a5 a6:Nat):Obj:=.cells #[.int .i64 a0,.slice a1 a2 a3,.slice a4 a5 a6] 168
abbrev O10(a0:Int)(a1:Option Addr)(a2 a3:Nat):Obj:=.cells #[.int .i64 a0,.slice a1 a2 a3] 225
abbrev O11(a0:Option Addr)(a1 a2:Nat)(a3:Option Addr)(a4 a5:Nat):Obj:=.cells #[.slice a0 a1 a2,.slice a3 a4 a5] 47
abbrev O12(a0 a1:Int)(a2:Option Addr)(a3 a4:Nat)(a5 a6 a7 a8:Int)(a9:ByteArray)(a10:Option Addr)(a11 a12:Nat)(a13:Option Addr)(a14 a15:Nat)(a16 a17:Int):Obj:=.cells #[.int .i64 a0,.int .i64 a1,.slice a2 a3 a4,.int .i64 a5,.int .i64 a6,.int .i64 a7,.int .i64 a8,.string a9,.slice a10 a11 a12,.slice a13 a14 a15,.int .i64 a16,.int .i64 a17] 109
abbrev O13(a0 a1 a2 a3:Int):Obj:=.cells #[.int .i64 a0,.int .i64 a1,.int .i64 a2,.int .i64 a3] 235
abbrev O14(a0 a1 a2 a3:Int):Obj:=.cells #[.int .i64 a0,.int .i64 a1,.int .i64 a2,.int .i64 a3] 164
abbrev O15(a0 a1 a2:Int):Obj:=.cells #[.int .i64 a0,.int .i64 a1,.int .i64 a2] 219
abbrev O16(a0:Option Addr)(a1 a2:Nat)(a3:Option Addr)(a4 a5:Nat)(a6:Option Addr)(a7 a8:Nat)(a9:Option Addr)(a10 a11:Nat)(a12 a13:Int)(a14:Option Addr)(a15 a16:Nat)(a17 a18 a19 a20:Int)(a21:Option Addr)(a22 a23:Nat)(a24:Option Addr)(a25 a26:Nat)(a27:Option Addr)(a28 a29:Nat)(a30:Option Addr)(a31 a32:Nat):Obj:=.cells #[.slice a0 a1 a2,.slice a3 a4 a5,.slice a6 a7 a8,.slice a9 a10 a11,.int .i64 a12,.int .i64 a13,.slice a14 a15 a16,.int .i64 a17,.int .i64 a18,.int .i64 a19,.int .i64 a20,.slice a21 a22 a23,.slice a24 a25 a26,.slice a27 a28 a29,.slice a30 a31 a32] 253
abbrev O17(a0:Int)(a1:Option Addr)(a2 a3:Nat)(a4:Option Addr)(a5 a6:Nat):Obj:=.cells #[.int .i64 a0,.slice a1 a2 a3,.slice a4 a5 a6] 266
abbrev O18(a0 a1:Int)(a2:Option Addr)(a3 a4:Nat)(a5 a6 a7 a8:Int)(a9:Option Addr)(a10 a11:Nat)(a12:Option Addr)(a13 a14:Nat)(a15:Option Addr)(a16 a17:Nat):Obj:=.cells #[.int .i64 a0,.int .i64 a1,.slice a2 a3 a4,.int .i64 a5,.int .i64 a6,.int .i64 a7,.int .i64 a8,.slice a9 a10 a11,.slice a12 a13 a14,.slice a15 a16 a17] 133
abbrev O19(a0 a1 a2 a3:Int):Obj:=.cells #[.int .i64 a0,.int .i64 a1,.int .i64 a2,.int .i64 a3] 267
abbrev O20(a0:Int):Obj:=.cells #[.int .u8 a0] 5
abbrev O21(a0:Option Addr)(a1 a2:Nat):Obj:=.cells #[.slice a0 a1 a2] 137
abbrev O22(a0 a1 a2 a3:Int):Obj:=.cells #[.int .i64 a0,.int .i64 a1,.int .i64 a2,.int .i64 a3] 31
abbrev O23(a0:Option Addr)(a1 a2:Nat)(a3:Option Addr)(a4 a5:Nat)(a6:Option Addr)(a7 a8:Nat)(a9:Option Addr)(a10 a11:Nat)(a12:Int)(a13:Bool):Obj:=.cells #[.slice a0 a1 a2,.slice a3 a4 a5,.slice a6 a7 a8,.slice a9 a10 a11,.int .i64 a12,.bool a13] 320
abbrev O24(a0:Option Addr)(a1 a2:Nat)(a3:Option Addr)(a4 a5:Nat):Obj:=.cells #[.slice a0 a1 a2,.slice a3 a4 a5] 188
abbrev O25(a0:Option Addr)(a1 a2:Nat)(a3:Option Addr)(a4 a5:Nat)(a6:Option Addr)(a7 a8:Nat)(a9:Option Addr)(a10 a11:Nat)(a12 a13:Int)(a14:Option Addr)(a15 a16:Nat)(a17 a18 a19 a20:Int)(a21:Option Addr)(a22 a23:Nat)(a24:Option Addr)(a25 a26:Nat)(a27:Option Addr)(a28 a29:Nat)(a30:Option Addr)(a31 a32:Nat):Obj:=.cells #[.slice a0 a1 a2,.slice a3 a4 a5,.slice a6 a7 a8,.slice a9 a10 a11,.int .i64 a12,.int .i64 a13,.slice a14 a15 a16,.int .i64 a17,.int .i64 a18,.int .i64 a19,.int .i64 a20,.slice a21 a22 a23,.slice a24 a25 a26,.slice a27 a28 a29,.slice a30 a31 a32] 183
abbrev O26(a0:Option Addr)(a1 a2:Nat)(a3:Option Addr)(a4 a5:Nat)(a6 a7:Int)(a8:Option Addr)(a9 a10:Nat)(a11 a12 a13 a14:Int)(a15:Option Addr)(a16 a17:Nat)(a18:Option Addr)(a19 a20:Nat)(a21:Option Addr)(a22 a23:Nat)(a24:Option Addr)(a25 a26:Nat)(a27:Option Addr)(a28 a29:Nat)(a30:Option Addr)(a31 a32:Nat)(a33:Option Addr)(a34 a35:Nat)(a36:Option Addr)(a37 a38:Nat)(a39 a40:Int)(a41:Option Addr)(a42 a43:Nat)(a44 a45 a46 a47:Int)(a48:Option Addr)(a49 a50:Nat)(a51:Option Addr)(a52 a53:Nat)(a54:Option Addr)(a55 a56:Nat)(a57:Option Addr)(a58 a59:Nat):Obj:=.cells #[.slice a0 a1 a2,.slice a3 a4 a5,.int .i64 a6,.int .i64 a7,.slice a8 a9 a10,.int .i64 a11,.int .i64 a12,.int .i64 a13,.int .i64 a14,.slice a15 a16 a17,.slice a18 a19 a20,.slice a21 a22 a23,.slice a24 a25 a26,.slice a27 a28 a29,.slice a30 a31 a32,.slice a33 a34 a35,.slice a36 a37 a38,.int .i64 a39,.int .i64 a40,.slice a41 a42 a43,.int .i64 a44,.int .i64 a45,.int .i64 a46,.int .i64 a47,.slice a48 a49 a50,.slice a51 a52 a53,.slice a54 a55 a56,.slice a57 a58 a59] 212
abbrev O27(a0:Option Addr)(a1 a2:Nat)(a3:Option Addr)(a4 a5:Nat)(a6 a7:Int)(a8:Option Addr)(a9 a10:Nat)(a11 a12 a13 a14:Int)(a15:Option Addr)(a16 a17:Nat)(a18:Option Addr)(a19 a20:Nat)(a21:Option Addr)(a22 a23:Nat)(a24:Option Addr)(a25 a26:Nat)(a27:Option Addr)(a28 a29:Nat)(a30:Option Addr)(a31 a32:Nat)(a33:Option Addr)(a34 a35:Nat)(a36:Option Addr)(a37 a38:Nat)(a39 a40:Int)(a41:Option Addr)(a42 a43:Nat)(a44 a45 a46 a47:Int)(a48:Option Addr)(a49 a50:Nat)(a51:Option Addr)(a52 a53:Nat)(a54:Option Addr)(a55 a56:Nat)(a57:Option Addr)(a58 a59:Nat)(a60:Option Addr)(a61 a62:Nat)(a63:Bool):Obj:=.cells #[.slice a0 a1 a2,.slice a3 a4 a5,.int .i64 a6,.int .i64 a7,.slice a8 a9 a10,.int .i64 a11,.int .i64 a12,.int .i64 a13,.int .i64 a14,.slice a15 a16 a17,.slice a18 a19 a20,.slice a21 a22 a23,.slice a24 a25 a26,.slice a27 a28 a29,.slice a30 a31 a32,.slice a33 a34 a35,.slice a36 a37 a38,.int .i64 a39,.int .i64 a40,.slice a41 a42 a43,.int .i64 a44,.int .i64 a45,.int .i64 a46,.int .i64 a47,.slice a48 a49 a50,.slice a51 a52 a53,.slice a54 a55 a56,.slice a57 a58 a59,.slice a60 a61 a62,.bool a63] 187
abbrev O28(a0:Option Addr)(a1 a2:Nat)(a3:Option Addr)(a4 a5:Nat)(a6 a7 a8:Bool):Obj:=.cells #[.slice a0 a1 a2,.slice a3 a4 a5,.bool a6,.bool a7,.bool a8] 260
abbrev O29(a0 a1 a2 a3 a4 a5 a6 a7 a8 a9 a10 a11 a12 a13 a14 a15 a16 a17 a18 a19:Int):Obj:=.cells #[.int .i64 a0,.int .i64 a1,.int .i64 a2,.int .i64 a3,.int .i64 a4,.int .i64 a5,.int .i64 a6,.int .i64 a7,.int .i64 a8,.int .i64 a9,.int .i64 a10,.int .i64 a11,.int .i64 a12,.int .i64 a13,.int .i64 a14,.int .i64 a15,.int .i64 a16,.int .i64 a17,.int .i64 a18,.int .i64 a19] 152
abbrev O30(a0:Int)(a1:Option Addr)(a2 a3:Nat):Obj:=.cells #[.int .i64 a0,.slice a1 a2 a3] 215
abbrev O31(a0:Option Addr)(a1 a2:Nat)(a3:Int):Obj:=.cells #[.slice a0 a1 a2,.int .i64 a3] 148
abbrev O32(a0:Int)(a1:Option Addr)(a2 a3:Nat)(a4 a5 a6:Int):Obj:=.cells #[.int .i64 a0,.slice a1 a2 a3,.int .i64 a4,.int .i64 a5,.int .i64 a6] 37
abbrev O33(a0:Option Addr)(a1 a2:Nat)(a3 a4 a5:Int):Obj:=.cells #[.slice a0 a1 a2,.int .i64 a3,.int .i64 a4,.int .i64 a5] 41
abbrev O34(a0 a1:Int):Obj:=.cells #[.int .i64 a0,.int .i64 a1] 240
abbrev O35(a0:Int)(a1:Bool)(a2:Option Addr)(a3 a4:Nat):Obj:=.cells #[.int .i64 a0,.bool a1,.slice a2 a3 a4] 118
abbrev O36(a0 a1:Int)(a2:Option Addr)(a3 a4:Nat)(a5:Option Addr)(a6 a7:Nat):Obj:=.cells #[.int .i64 a0,.int .i64 a1,.slice a2 a3 a4,.slice a5 a6 a7] 171
abbrev O37(a0 a1:Int):Obj:=.cells #[.int .i64 a0,.int .i64 a1] 3
def QB{c:TW}(h:Bl w b)(g:Bl b c):Bl w c:=h.trans (g.mono h.size)
def QC{p:Addr}{v:Option Value}(h:Below n w b)(l:p.block<n)(f:w.cell? p=v):b.cell? p=v:=(h.cell l).trans f
def QL(h:Below n w b)(l:k<w.heap.size):k<b.heap.size:=Bvm l h.size
def QA{o:Obj}{p:Addr}{v:Option Value}(l:p.block<w.heap.size)(f:w.cell? p=v):(w.alloc o).cell? p=v:=(Bwg _ _ _ l).trans f
def QN(o:Obj):Bl w (w.alloc o):=(Vm _ _).alloc (Wf _) o
def QX:(∀(a:Act)(d:Tmp)(v:TX),a.put (some d) v={a with tmps:=a.tmps.setIfInBounds d v})/\(∀(a:Act)(v:TX),a.put none v=a)/\(∀(l:TV)(i:Nat)(v:TX),l.toArray.setIfInBounds i v=(l.set i v).toArray)/\(∀(x:TX)(l:TV)(v:TX),(x::l).set 0 v=v::l)/\(∀(x:TX)(l:TV)(i:Nat)(v:TX),(x::l).set (i+1) v=x::l.set i v):=⟨fun _ _ _=>rfl,fun _ _=>rfl,fun _ _ _=>Fr,fun _ _ _=>rfl,fun _ _ _ _=>rfl⟩
def Gr (B:Nat)(w w':TW):Prop:=w.grownBy w' (some B)
def Gr.refl(B:Nat)(w:TW):Gr B w w:=⟨rfl,rfl,rfl,Wf _,fun _ _ _=>rfl⟩
def Gr.size(h:Gr u w b):w.heap.size<=b.heap.size:=World.grownBy.size h
def Gr.blk(h:Gr u w b)(c:k<w.heap.size)(e:k≠u):b.heap[k]?=w.heap[k]? :=
 World.grownBy.block h k c (by simpa using e)
def Gr.trans{a c:TW}(h:Gr u a b)(k:Gr u b c):Gr u a c :=
 ⟨(World.grownBy.os k).trans (World.grownBy.os h),(World.grownBy.tape k).trans (World.grownBy.tape h),(World.grownBy.output k).trans (World.grownBy.output h),Bvv h.size k.size,
  fun i e f=>(World.grownBy.block k i (Bvm e h.size) f).trans (World.grownBy.block h i e f)⟩
def Gr.grown{a c:TW}{f:Option Nat}(h:Gr u a b)(k:b.grownBy c f)(p:∀j,f=some j->a.heap.size<=j\/j=u):Gr u a c :=
 ⟨k.os.trans (World.grownBy.os h),k.tape.trans (World.grownBy.tape h),k.output.trans (World.grownBy.output h),Bvv h.size k.size,
  fun i g l=>(k.block i (Bvm g h.size) (fun e=>by rcases p i e.symm with m|m<;>first|omega|(subst m;exact l rfl))).trans (World.grownBy.block h i g l)⟩
def Gr.alloc{a:TW}(h:Gr u a b)(o:Obj):Gr u a (b.alloc o) :=
 h.grown (World.grownBy_alloc b o none) Fr
def Gr.drew{a:TW}(h:Gr u a b):Gr u a b.drew:=by
 have c:a.grownBy b (some u):=h;exact⟨c.os,c.tape,c.output,c.size,c.block⟩
def Gr.drewN{a:TW}(h:Gr u a b)(n:Nat):Gr u a (b.drewN n):=by
 have c:a.grownBy b (some u):=h;exact⟨c.os,c.tape,c.output,c.size,c.block⟩
def Xk(w:TW)(p:Addr)(u:TX):w.grownBy (w.setCell p u) (some p.block) :=
 ⟨rfl,rfl,rfl,by simp[World.setCell],fun k _ b=>Bvg _ _ _ _ (by simpa using b)⟩
def Gr.set{a:TW}(h:Gr u a b){p:Addr}(f:a.heap.size<=p.block\/p.block=u)(c:TX):Gr u a (b.setCell p c) :=
 h.grown (Xk b p c) (by intro j e;simp at e;subst e;exact f)
def Gr.below(h:Gr u w b)(e:w.heap.size<=u):Bl w b :=
 ⟨World.grownBy.os h,World.grownBy.tape h,World.grownBy.output h,h.size,fun k c=>h.blk c Bd⟩
def Gr.of_below{a c:TW}(h:Gr u a b)(k:Bl b c):Gr u a c :=
 ⟨k.os.trans (World.grownBy.os h),k.tape.trans (World.grownBy.tape h),k.output.trans (World.grownBy.output h),Bvv h.size k.size,
  fun i e f=>(k.block i (Bvm e h.size)).trans (World.grownBy.block h i e f)⟩
def Bq{i:Nat}(h:w.heap[u]?=some (.cells G g (0,0)))(c:TX):(w.setCell (.a u i) c).heap[u]?=some (.cells (G.setIfInBounds i c) g (0,0)):=by
 have e:=Pk h;have f:w.heap[u]=.cells G g (0,0):=by simpa[Bx6 e] using h
 show (w.heap.modify u _)[u]?=_;rw[Bx6 (by simpa using e),Array.getElem_modify_self,f];rfl
def Bb(h:w.heap[u]?=some (.cells G g (0,0)))(i:Nat):w.cell? (.a u i)=G[i]?:=by simp[World.cell?,h]
def Bj(h:w.heap[u]?=some (.cells G g (0,0)))(i:Nat):w.frozen? (.a u i)=false:=by simp[World.frozen?,h]
def cl2(h:w.heap[k]?=some (.cells G g (0,0))):w.cell? (.a k 0)=G[0]?/\w.cell? (.a k 1)=G[1]?:=⟨Bb h 0,Bb h 1⟩
def cl3(h:w.heap[k]?=some (.cells G g (0,0))):w.cell? (.a k 0)=G[0]?/\w.cell? (.a k 1)=G[1]?/\w.cell? (.a k 2)=G[2]?:=⟨Bb h 0,Bb h 1,Bb h 2⟩
def cl4(h:w.heap[k]?=some (.cells G g (0,0))):w.cell? (.a k 0)=G[0]?/\w.cell? (.a k 1)=G[1]?/\w.cell? (.a k 2)=G[2]?/\w.cell? (.a k 3)=G[3]?:=⟨Bb h 0,Bb h 1,Bb h 2,Bb h 3⟩
def cl5(h:w.heap[k]?=some (.cells G g (0,0))):w.cell? (.a k 0)=G[0]?/\w.cell? (.a k 1)=G[1]?/\w.cell? (.a k 2)=G[2]?/\w.cell? (.a k 3)=G[3]?/\w.cell? (.a k 4)=G[4]?:=⟨Bb h 0,Bb h 1,Bb h 2,Bb h 3,Bb h 4⟩
def cl9(h:w.heap[k]?=some (.cells G g (0,0))):w.cell? (.a k 0)=G[0]?/\w.cell? (.a k 1)=G[1]?/\w.cell? (.a k 2)=G[2]?/\w.cell? (.a k 3)=G[3]?/\w.cell? (.a k 4)=G[4]?/\w.cell? (.a k 5)=G[5]?/\w.cell? (.a k 6)=G[6]?/\w.cell? (.a k 7)=G[7]?/\w.cell? (.a k 8)=G[8]?:=⟨Bb h 0,Bb h 1,Bb h 2,Bb h 3,Bb h 4,Bb h 5,Bb h 6,Bb h 7,Bb h 8⟩
def N7(h:w.heap[k]?=some (.cells G g (0,0))):w.cell? (.a k 0)=G[0]?/\w.cell? (.a k 1)=G[1]?/\w.cell? (.a k 2)=G[2]?/\w.cell? (.a k 3)=G[3]?/\w.cell? (.a k 4)=G[4]?/\w.cell? (.a k 5)=G[5]?/\w.cell? (.a k 6)=G[6]?/\w.cell? (.a k 7)=G[7]?/\w.cell? (.a k 8)=G[8]?/\w.cell? (.a k 9)=G[9]?:=⟨Bb h 0,Bb h 1,Bb h 2,Bb h 3,Bb h 4,Bb h 5,Bb h 6,Bb h 7,Bb h 8,Bb h 9⟩
def Ia(h:w.heap[k]?=some (.cells G g (0,0))):w.cell? (.a k 0)=G[0]?/\w.cell? (.a k 1)=G[1]?/\w.cell? (.a k 2)=G[2]?/\w.cell? (.a k 3)=G[3]?/\w.cell? (.a k 4)=G[4]?/\w.cell? (.a k 5)=G[5]?/\w.cell? (.a k 6)=G[6]?/\w.cell? (.a k 7)=G[7]?/\w.cell? (.a k 8)=G[8]?/\w.cell? (.a k 9)=G[9]?/\w.cell? (.a k 10)=G[10]?/\w.cell? (.a k 11)=G[11]?:=⟨Bb h 0,Bb h 1,Bb h 2,Bb h 3,Bb h 4,Bb h 5,Bb h 6,Bb h 7,Bb h 8,Bb h 9,Bb h 10,Bb h 11⟩
def Wg(h:w.heap[k]?=some (.cells G g (0,0))):w.cell? (.a k 0)=G[0]?/\w.cell? (.a k 1)=G[1]?/\w.cell? (.a k 2)=G[2]?/\w.cell? (.a k 3)=G[3]?/\w.cell? (.a k 4)=G[4]?/\w.cell? (.a k 5)=G[5]?/\w.cell? (.a k 6)=G[6]?/\w.cell? (.a k 7)=G[7]?/\w.cell? (.a k 8)=G[8]?/\w.cell? (.a k 9)=G[9]?/\w.cell? (.a k 10)=G[10]?/\w.cell? (.a k 11)=G[11]?/\w.cell? (.a k 12)=G[12]?/\w.cell? (.a k 13)=G[13]?/\w.cell? (.a k 14)=G[14]?:=⟨Bb h 0,Bb h 1,Bb h 2,Bb h 3,Bb h 4,Bb h 5,Bb h 6,Bb h 7,Bb h 8,Bb h 9,Bb h 10,Bb h 11,Bb h 12,Bb h 13,Bb h 14⟩
def Bq7(h:w.heap[k]?=some (.cells G g (0,0))):w.cell? (.a k 0)=G[0]?/\w.cell? (.a k 1)=G[1]?/\w.cell? (.a k 2)=G[2]?/\w.cell? (.a k 3)=G[3]?/\w.cell? (.a k 4)=G[4]?/\w.cell? (.a k 5)=G[5]?/\w.cell? (.a k 6)=G[6]?/\w.cell? (.a k 7)=G[7]?/\w.cell? (.a k 8)=G[8]?/\w.cell? (.a k 9)=G[9]?/\w.cell? (.a k 10)=G[10]?/\w.cell? (.a k 11)=G[11]?/\w.cell? (.a k 12)=G[12]?/\w.cell? (.a k 13)=G[13]?/\w.cell? (.a k 14)=G[14]?/\w.cell? (.a k 15)=G[15]?/\w.cell? (.a k 16)=G[16]?/\w.cell? (.a k 17)=G[17]?/\w.cell? (.a k 18)=G[18]?/\w.cell? (.a k 19)=G[19]?/\w.cell? (.a k 20)=G[20]?/\w.cell? (.a k 21)=G[21]?/\w.cell? (.a k 22)=G[22]?/\w.cell? (.a k 23)=G[23]?/\w.cell? (.a k 24)=G[24]?/\w.cell? (.a k 25)=G[25]?/\w.cell? (.a k 26)=G[26]?/\w.cell? (.a k 27)=G[27]?:=⟨Bb h 0,Bb h 1,Bb h 2,Bb h 3,Bb h 4,Bb h 5,Bb h 6,Bb h 7,Bb h 8,Bb h 9,Bb h 10,Bb h 11,Bb h 12,Bb h 13,Bb h 14,Bb h 15,Bb h 16,Bb h 17,Bb h 18,Bb h 19,Bb h 20,Bb h 21,Bb h 22,Bb h 23,Bb h 24,Bb h 25,Bb h 26,Bb h 27⟩
def fr2(h:w.heap[k]?=some (.cells G g (0,0))):w.frozen? (.a k 0)=false/\w.frozen? (.a k 1)=false:=⟨Bj h 0,Bj h 1⟩
def fr3(h:w.heap[k]?=some (.cells G g (0,0))):w.frozen? (.a k 0)=false/\w.frozen? (.a k 1)=false/\w.frozen? (.a k 2)=false:=⟨Bj h 0,Bj h 1,Bj h 2⟩
def fr4(h:w.heap[k]?=some (.cells G g (0,0))):w.frozen? (.a k 0)=false/\w.frozen? (.a k 1)=false/\w.frozen? (.a k 2)=false/\w.frozen? (.a k 3)=false:=⟨Bj h 0,Bj h 1,Bj h 2,Bj h 3⟩
def U8(h:w.heap[k]?=some (.cells G g (0,0))):w.frozen? (.a k 0)=false/\w.frozen? (.a k 1)=false/\w.frozen? (.a k 2)=false/\w.frozen? (.a k 3)=false/\w.frozen? (.a k 4)=false/\w.frozen? (.a k 5)=false/\w.frozen? (.a k 6)=false/\w.frozen? (.a k 7)=false/\w.frozen? (.a k 8)=false/\w.frozen? (.a k 9)=false/\w.frozen? (.a k 10)=false/\w.frozen? (.a k 11)=false:=⟨Bj h 0,Bj h 1,Bj h 2,Bj h 3,Bj h 4,Bj h 5,Bj h 6,Bj h 7,Bj h 8,Bj h 9,Bj h 10,Bj h 11⟩
def Bf(w:TW)(o:Obj):(w.alloc o).heap[w.heap.size]?=some o:=heap_alloc_new w o
def Ev (w:TW)(B:Nat)(s:ByteArray)(t:Rd.St):Prop :=
 w.heap[B]?=some (O0 s t.pos t.bad)
theorem Ev.cells{w:World}{t:Rd.St}(h:Ev w u s t):w.cell? ⟨u,0,none⟩=some (.string s)/\w.cell? ⟨u,1,none⟩=some (.int .i64 t.pos)/\w.cell? ⟨u,2,none⟩=some (.bool t.bad)/\w.frozen? ⟨u,0,none⟩=false/\w.frozen? ⟨u,1,none⟩=false/\w.frozen? ⟨u,2,none⟩=false:=by
 unfold Ev at h;simp[World.cell?,World.frozen?,h]
def Ev.lt{t:Rd.St}(h:Ev w u s t):u<w.heap.size:=Pk h
def Ev.alloc{t:Rd.St}(h:Ev w u s t)(o:Obj):Ev (w.alloc o) u s t:=by
 unfold Ev;rw[Bvu w o u h.lt];exact h
def Ev.set{t:Rd.St}(h:Ev w u s t){p:Addr}(c:p.block≠u)(b:TX):Ev (w.setCell p b) u s t:=by
 unfold Ev;rw[Bvg _ _ _ _ (fun e=>c e.symm)];exact h
def Ev.grown{t:Rd.St}{c:Option Nat}(h:Ev w u s t)(e:w.grownBy b c)(f:some u≠c):Ev b u s t:=by
 unfold Ev;rw[e.block u h.lt f];exact h
def Ev.pos{t:Rd.St}(h:Ev w u s t)(q:Int)(k:Nat)(b:q=k):Ev (w.setCell (.a u 1) (.i q)) u s ⟨k,t.bad⟩:=by
 unfold Ev at h ⊢;rw[Bq h,b];rfl
def Ev.bad{t:Rd.St}(h:Ev w u s t)(b:Bool):Ev (w.setCell (.a u 2) (.bool b)) u s ⟨t.pos,b⟩:=by
 unfold Ev at h ⊢;rw[Bq h];rfl
def Ev.drewN{t:Rd.St}(h:Ev w u s t)(n:Nat):Ev (w.drewN n) u s t:=h
def Gr.own{o:Obj}(h:Gr u w b)(c:w.heap[k]?=some o)(e:k≠u):b.heap[k]?=some o:=by
 rw[h.blk (Pk c) e];exact c
def Bb9{s j:Nat}{e:TV}(h:w.ownsRow s g j i n e)(c:Gr u w b)(m:u<s):b.ownsRow s g j i n e:=by
 refine h.kept c ?_;cases f:i.ownBlock with
 | none=>exact .inl rfl
 | some k=>have:=h.lt k f;right;intro l;simp at l;omega
def Xv{s j:Nat}{e:TV}(h:w.ownsRow s g j i n e)(c:u<s):some u≠i.ownBlock:=by
 intro b;have:=h.lt u b.symm;omega
def Xw{s j:Nat}{e:TV}(h:w.ownsRow s g j i n e):∀b,i.ownBlock=some b->s<=b\/b=u :=
 fun b c=>.inl (h.lt b c).1
def D8{base' j:Nat}{e:TV}(h:w.ownsRow u g j i n e)(q:base'<=u):w.ownsRow base' g j i n e:=by
 obtain⟨f,l|⟨c,m,p,a,b,r⟩⟩:=h
 ·exact⟨f,.inl l⟩
 exact⟨f,.inr ⟨c,m,p,a,Bd,r⟩⟩
def Bg{f:Nat}{e:TV}(h:w.ownsRow u g f i n e):∃a c,i=.s a n c:=by
 obtain⟨_,⟨rfl,rfl⟩|⟨b,j,l,rfl,_⟩⟩:=h
 ·exact⟨none,0,rfl⟩
 exact⟨_,_,rfl⟩
def Dv(w:TW)(l:TV)(t:TypeId)(g:Nat)(b:w.heap.size=g):∀(j:Nat) (x:TX),l[j]?=some x->(w.alloc (.cells l.toArray t)).cell? ((⟨g,0,none⟩:Addr).add j)=some x:=by
 intro j x c;have e:(⟨g,0,none⟩:Addr).add j=⟨g,j,none⟩:=by unfold Addr.add;split<;>simp_all
 subst b;rw[e,Bb (Bf w (.cells l.toArray t (0,0))) j];simpa using c
def Bc{p:Prop}(h:p):Hid p:=h
def Ba{p:Prop}(h:Hid p):p:=h
def Bja{k:IntKind}{a B:Int}(h:a=B):Ending.returned (.int k a)=.r (.int k B):=by rw[h]
def Bdo(c:UInt8):wrap64 (c.toNat:Int)=(c.toNat:Int):=by
 have:=c.toNat_lt;unfold wrap64;omega
def Bt7(h:u<s.size):Rd.nx s.data.toList ⟨u,false⟩=((s[u].toNat:Int),⟨u+1,false⟩):=by
 have b:u<s.data.toList.length:=by simpa using h
 have e:s.data.toList[u]?.getD 0=s[u]:=by rw[Ws b];rfl
 unfold Rd.nx;rw[Pf Fr,Pf Ls];simp only[e]
def Xz(h:¬u<s.size):Rd.nx s.data.toList ⟨u,false⟩=(0,⟨u,true⟩):=by
 have b:s.data.toList.length=s.size:=Fr;unfold Rd.nx;rw[Pf Fr,Sp Ls]
def Gl:Rd.nx s.data.toList ⟨u,true⟩=(0,⟨u,true⟩):=by simp[Rd.nx]
def Ih(s:ByteArray)(B:Nat)(t:Rd.St)(w:TW)(h:s.size<=maxLen)(b:Ev w B s t):Calls prog 204 #[.q B 0] w fun e f=>e=.r (.i (Rd.nx s.data.toList t).1)/\Ev f B s (Rd.nx s.data.toList t).2/\Gr B w f:=by
 unfold maxLen at h;obtain⟨v,j,l,z,A,C⟩:=b.cells;obtain⟨c,m⟩:=t;simp only at j l;cases m
 ·by_cases g:c<s.size;·rw[Bt7 g];have p:decide ((c:Int)<0)=false:=Fr;go_in;go_wp2;go_quiet (fail);go_wp2;go_quiet (fail);go_wp2;go_ret;exact⟨Bja (Bdo _),(b.drewN _).pos _ _ Bd,((Gr.refl _ _).drewN _).set (.inr rfl) _⟩
  rw[Xz g];have p:decide ((c:Int)<0)=false:=Fr;have g2:decide (s.size<=c)=true:=Fm;go_in;go_wp2;go_quiet (fail);go_wp2;go_ret;exact⟨rfl,(b.drewN _).bad _,((Gr.refl _ _).drewN _).set (.inr rfl) _⟩
 rw[Gl];go_in;go_wp2;go_quiet (fail);go_wp2;go_ret;exact⟨rfl,(b.drewN _).bad _,((Gr.refl _ _).drewN _).set (.inr rfl) _⟩
def Bcn(s:ByteArray)(B:Nat)(b:Int)(t:Rd.St)(w:TW)(h:s.size<=maxLen)(j:Ev w B s t):Calls prog 154 #[.q B 0,.i b] w fun e l=>e=.r (.tuple #[])/\Ev l B s (Rd.ex s.data.toList b t)/\Gr B w l:=by
 unfold Rd.ex;generalize p:Rd.nx s.data.toList t=r;have m:=Bc p;by_cases c:r.1=b
 ·rw[Sp c];have v:(r.1 != b)=false:=by simp[c]
  have z:=Bc c;go_in;go_wp2_with (go_at_call 204;refine(Ih s B t _ h j).mono ?_;rw[Ba m];rintro e A ⟨rfl,f,g⟩)
  go_end0;exact⟨rfl,f,g⟩
 rw[Pf c];have v:(r.1 != b)=true:=by simp[c]
 have z:=Bc c;go_in;go_wp2_with (go_at_call 204;refine(Ih s B t _ h j).mono ?_;rw[Ba m];rintro e A ⟨rfl,f,g⟩;obtain⟨C,D,F,G,I,J⟩:=f.cells)
 go_end0;exact⟨rfl,f.bad _,g.set (.inr rfl) _⟩
def Ln(s:ByteArray)(B:Nat)(f g:Int)(t:Rd.St)(w:TW)(h:s.size<=maxLen)(j:Ev w B s t):Calls prog 155 #[.q B 0,.i f,.i g] w fun e m=>e=.r (.i (Rd.cn s.data.toList f g t).1)/\Ev m B s (Rd.cn s.data.toList f g t).2/\Gr B w m:=by
 unfold Rd.cn;generalize A:Rd.nx s.data.toList t=r;have l:=Bc A;by_cases p:r.1<f
 ·rw[Sp p];go_in;go_wp2_with (go_at_call 204;refine(Ih s B t _ h j).mono ?_;rw[Ba l];rintro e v ⟨rfl,b,c⟩;obtain⟨C,D,F,G,I,J⟩:=b.cells)
  go_ret;exact⟨rfl,b.bad _,c.set (.inr rfl) _⟩
 rw[Pf p];by_cases z:g<r.1
 ·rw[Sp z];go_in;go_wp2_with (go_at_call 204;refine(Ih s B t _ h j).mono ?_;rw[Ba l];rintro e v ⟨rfl,b,c⟩;obtain⟨C,D,F,G,I,J⟩:=b.cells)
  go_ret;exact⟨rfl,b.bad _,c.set (.inr rfl) _⟩
 rw[Pf z];go_in;go_wp2_with (go_at_call 204;refine(Ih s B t _ h j).mono ?_;rw[Ba l];rintro e v ⟨rfl,b,c⟩)
 go_ret;exact⟨rfl,b,c⟩
def Bar(s:ByteArray)(B:Nat)(t:Rd.St)(w:TW)(c:s.size<=maxLen)(f:Ev w B s t):Calls prog 206 #[.q B 0] w fun e g=>e=.r (.agg #[.i (Rd.ty s.data.toList t).1.1,.i (Rd.ty s.data.toList t).1.2])/\Ev g B s (Rd.ty s.data.toList t).2/\Gr B w g:=by
 unfold Rd.ty;have J:=f.lt;generalize z:Rd.nx s.data.toList t=b;generalize A:Rd.nx s.data.toList b.2=C;have D:=Bc z;have F:=Bc A;go_in;go_wp2_with fail;refine(Ih s B t _ c (f.alloc _)).mono ?_;rw[Ba D];rintro e K ⟨rfl,G,h⟩;go_wp2_with fail;refine(Ih s B b.2 _ c G).mono ?_;rw[Ba F];rintro e L ⟨rfl,I,j⟩;have l:=j.own (h.own (Bf w _) Bd) Bd;obtain⟨m,p⟩:=cl2 l;obtain⟨N,O⟩:=fr2 l;simp only[Byh,Bxq,Bwi]at m p;go_wp2_with fail;refine Bwy (v:=.agg #[.i b.1,.i C.1]) (by simp[results,results206,go_sem,m,p]) rfl ⟨rfl,(I.set Fm _).set Fm _,?_⟩;exact((((Gr.refl _ _).alloc _).trans (h.trans j)).set (.inl Fr) _).set (.inl Fr) _
def Tryz.infoType:(prog.info? 31).map (fun i=>(i.zero,i.size,i.bytes))=some (some (.agg #[.i 0,.i 0]),2,16):=Le
def Bu (l:TP):List Value:=l.flatMap fun x=>[.int .i64 x.1,.int .i64 x.2]
def Xd(l:TP)(x:Int×Int):Bu (l++[x])=Bu l++[.i x.1,.i x.2]:=by simp[Bu]
def Wx(s:ByteArray)(B:Nat)(n:Int)(t:Rd.St)(w:TW)(G:s.size<=maxLen)(a2:0<=n)(a3:n<=255)(h:Ev w B s t):Calls prog 205 #[.q B 0,.i n] w fun e b => ∃v,e=.returned v/\b.ownsRow w.heap.size 31 2 v n.toNat (Bu (Rd.tys s.data.toList n.toNat t).1)/\Ev b B s (Rd.tys s.data.toList n.toNat t).2/\Gr B w b:=by
 have j:=h.lt;obtain⟨I,J,K,L,N⟩:=Bv4 Tryz.infoType;unfold Rd.tys;go_in;go_wp2
 go_loopw [5,6] (fun v i wr=>∃k:Nat,(k:Int)<=n/\i=.i k/\wr.ownsRow w.heap.size 31 2 v k (Bu (Rd.rep (Rd.ty s.data.toList) k t).1)/\Ev wr B s (Rd.rep (Rd.ty s.data.toList) k t).2/\Gr B w wr)
  (fun _ i _=>n.toNat-(intOf i).toNat)
 case atStart=>exact⟨0,Bd,rfl,Bvl _ _ _ _,h,Gr.refl _ _⟩
 case round=>
  obtain⟨k,hk,rfl,l,m,c⟩:=hrel;have a4:=c.size;by_cases a5:(k:Int)<n
  ·generalize O:Rd.rep (Rd.ty s.data.toList) k t=p at *;generalize Q:Rd.ty s.data.toList p.2=q at *;have V:=Bc O;have z:=Bc Q;go_wp2_with fail;refine(Bar s B p.2 _ G m).mono ?_;rw[Ba z];rintro e Y ⟨rfl,Z,f⟩;have a6:=f.size;have g:=Bb9 l f j;go_wp2_with (at_builtin;refine Bvw _ rfl _ _ 105 rfl w.heap.size 31 I _ 2 16 Bwq J K L N rfl Ck _ _ _ rfl ((g.alloc _).alloc _) ⟨Y.heap.size+1,0,none⟩ 1 1 [.i q.1.1,.i q.1.2] rfl rfl ?c1 ?c2 ?c3 ?c4 ?c5 ?_)
   case c1=>exact Dv _ _ _ _ Fr
   case c2=>intro u A;simp at A;rcases A with rfl|rfl<;>rfl
   case c3=>unfold maxLen;omega
   case c4=>omega
   case c5=>simp;omega
   intro v' w2 C D _;have a0:=((Z.alloc _).alloc _).grown D (Xv g j);have a1:=(((c.trans f).alloc _).alloc _).grown D (Xw g);have e1:(Rd.rep (Rd.ty s.data.toList) (k+1) t)=(p.1++[q.1],q.2):=by simp only[Rd.rep,Ba V,Ba z]
   rw[<- Xd]at C;have F:=Bc e1;go_wp2;go_roundw
   case rel=>exact⟨k+1,Bd,Lt,by rw[Ba F];exact C,by rw[Ba F];exact a0,a1⟩
   case measure=>simp[intOf];omega
  have e:k=n.toNat:=Bd;subst e;go_wp2;go_ret;exact⟨_,rfl,l,m,c⟩
def Kp (e:Option TypeId)(b:Nat)(w w':TW):Prop :=
 ∀k cs t,b<=k->w.heap[k]?=some (.cells cs t (0,0))->some t≠e->w'.heap[k]?=some (.cells cs t (0,0))
def Kp.of_gr{s:Nat}(h:Gr u w b)(f:u<s):Kp e s w b:=by
 intro k g t i c _;rw[h.blk (Pk c) Bd];exact c
def Kp.of_below{b:Nat}{c:TW}(h:Bl w c):Kp e b w c:=by
 intro k g t _ f _;rw[h.block k (Pk f)];exact f
def Kp.of_grown{b s j:Nat}{e:TV}{p:TW}(q:w.grownBy p i.ownBlock)(h:w.ownsRow s g j i n e):Kp (some g) b w p:=by
 intro k A t _ f z;rw[q.block k (Pk f) ?_];exact f;intro l;obtain⟨B,⟨rfl,_⟩|⟨c,C,D,rfl,_,m,_⟩⟩:=h
 ·simp[Value.ownBlock]at l
 simp[Value.ownBlock]at l;subst l;rw[f]at m;simp at m;exact z (by rw[m.2])
def Kp.trans{O:Option TypeId}{c:TW}(h:Kp O u w b)(k:Kp O u b c):Kp O u w c :=
 fun i f t g l j=>k i f t g (h i f t g l j) j
def Kp.alloc{b:Nat}(w:TW)(o:Obj):Kp e b w (w.alloc o):=by
 intro k f t _ c _;rw[Bvu w o k (Pk c)];exact c
def Kp.set{b i:Nat}{j:Nat}(h:w.heap[j]?=some (.cells G g (0,0)))(u:TX):Kp (some g) b w (w.setCell (.a j i) u):=by
 intro k m t _ c l;rw[Bvg _ _ _ _ ?_];exact c;intro f;simp only at f;subst f;rw[c]at h;simp at h;exact l (by rw[h.2])
def Cx{s:Nat}{j:TV}(h:w.ownsRow u g s i n j)(p:Kp e u w b)(q:some g≠e):b.ownsRow u g s i n j:=by
 obtain⟨l,z|⟨f,A,m,a,c,d,r⟩⟩:=h
 ·exact⟨l,.inl z⟩
 exact⟨l,.inr ⟨f,A,m,a,c,p f m g c d q,r⟩⟩
def Dp (w:TW)(b:Nat)(v:TX)(l:TP):Prop:=w.ownsRow b 31 2 v l.length (Bu l)
def Dp.kp{q:TP}(h:Dp w u i q)(c:Kp e u w b)(f:some 31≠e):Dp b u i q:=Cx h c f
def Dp.mono{b':Nat}{q:TP}(h:Dp w u i q)(c:b'<=u):Dp w b' i q:=D8 h c
def Du (w:TW)(b:Nat)(v:TX)(l:TI):Prop:=w.ownsRow b 3 1 v l.length (l.map (Value.int .i64))
def Du.kp(h:Du w u i z)(c:Kp e u w b)(f:some 3≠e):Du b u i z:=Cx h c f
def Du.mono{b':Nat}(h:Du w u i z)(c:b'<=u):Du w b' i z:=D8 h c
def Et (l:List Rd.Hnd):List Value:=l.flatMap fun x=>[.int .i64 x.frm,.int .i64 x.til,.int .i64 x.target,.int .i64 x.cl]
def Baw(l:List Rd.Hnd)(x:Rd.Hnd):Et (l++[x])=Et l++[.i x.frm,.i x.til,.i x.target,.i x.cl]:=by simp[Et]
def J5 (w:TW)(b:Nat)(v:TX)(l:List Rd.Hnd):Prop:=w.ownsRow b 267 4 v l.length (Et l)
def J5.kp{l:List Rd.Hnd}(h:J5 w u i l)(c:Kp e u w b)(f:some 267≠e):J5 b u i l:=Cx h c f
def J5.mono{b':Nat}{l:List Rd.Hnd}(h:J5 w u i l)(c:b'<=u):J5 w b' i l:=D8 h c
def Kr (l:List (Rd.Cls × Value)):List Value:=l.flatMap fun x=>[.int .i64 x.1.above,x.2]
def Ba6(l:List (Rd.Cls×Value))(x:Rd.Cls×Value):Kr (l++[x])=Kr l++[.i x.1.above,x.2]:=by simp[Kr]
def Ex (w:TW)(b:Nat)(v:TX)(l:List (Rd.Cls × Value)):Prop :=
 w.ownsRow b 139 2 v l.length (Kr l)/\∀p∈l,Dp w b p.2 p.1.fields
def Ex.kp{J:List (Rd.Cls×Value)}(h:Ex w u i J)(c:Kp e u w b)(f:some 139≠e)(g:some 31≠e):Ex b u i J :=
 ⟨Cx h.1 c f,fun p j=>(h.2 p j).kp c g⟩
def Ex.mono{b':Nat}{J:List (Rd.Cls×Value)}(h:Ex w u i J)(c:b'<=u):Ex w b' i J:=⟨D8 h.1 c,fun p e=>(h.2 p e).mono c⟩
def Bo3 (w:TW)(b:Nat)(v:TX)(cs:List Rd.Cls):Prop:=∃l,l.map Prod.fst=cs/\Ex w b v l
def Mn (l:List (Rd.Mp × Value × Value)):List Value:=l.flatMap fun x=>[.int .i64 x.1.place,x.2.1,x.2.2]
def Xj(l:List (Rd.Mp×Value×Value))(x:Rd.Mp×Value×Value):Mn (l++[x])=Mn l++[.i x.1.place,x.2.1,x.2.2]:=by simp[Mn]
def Ob (w:TW)(b:Nat)(v:TX)(l:List (Rd.Mp × Value × Value)):Prop :=
 w.ownsRow b 266 3 v l.length (Mn l)/\∀p∈l,Dp w b p.2.1 p.1.locals/\Dp w b p.2.2 p.1.stack
def Ob.kp{l:List (Rd.Mp×Value×Value)}(h:Ob w u i l)(c:Kp e u w b)(j:some 266≠e)(f:some 31≠e):Ob b u i l :=
 ⟨Cx h.1 c j,fun p g=>⟨(h.2 p g).1.kp c f,(h.2 p g).2.kp c f⟩⟩
def Ob.mono{b':Nat}{l:List (Rd.Mp×Value×Value)}(h:Ob w u i l)(c:b'<=u):Ob w b' i l:=⟨D8 h.1 c,fun p e=>⟨(h.2 p e).1.mono c,(h.2 p e).2.mono c⟩⟩
def Bru (w:TW)(b:Nat)(v:TX)(ms:List Rd.Mp):Prop:=∃l,l.map Prod.fst=ms/\Ob w b v l
structure Eh where
 params:Value
 code:Value
 handlers:Value
 maps:Value
def Ly (m:Rd.Mth)(u:Eh):List Value :=
 [.int .i64 m.cl,.int .i64 m.name,u.params,.int .i64 m.result.1,.int .i64 m.result.2,.int .i64 m.locals,.int .i64 m.stack,u.code,u.handlers,u.maps]
def Xa (w:TW)(b:Nat)(m:Rd.Mth)(u:Eh):Prop :=
 Dp w b u.params m.params/\Du w b u.code m.code/\J5 w b u.handlers m.handlers/\Bru w b u.maps m.maps
def Xa.kp{F:Rd.Mth}{g:Eh}(h:Xa w u F g)(i:Kp e u w b)(j:some 31≠e)(p:some 3≠e)(q:some 267≠e)(s:some 266≠e):Xa b u F g:=by
 obtain⟨a,c,d,l,t,f⟩:=h;exact⟨a.kp i j,c.kp i p,d.kp i q,l,t,f.kp i s j⟩
def Xa.mono{b':Nat}{F:Rd.Mth}{e:Eh}(h:Xa w u F e)(g:b'<=u):Xa w b' F e:=by
 obtain⟨a,c,d,l,i,f⟩:=h;exact⟨a.mono g,c.mono g,d.mono g,l,i,f.mono g⟩
def Kw (l:List (Rd.Mth × Eh)):List Value:=l.flatMap fun x=>Ly x.1 x.2
def Ac(l:List (Rd.Mth×Eh))(x:Rd.Mth×Eh):Kw (l++[x])=Kw l++Ly x.1 x.2:=by simp[Kw]
def Eb (w:TW)(b:Nat)(v:TX)(l:List (Rd.Mth × Eh)):Prop :=
 w.ownsRow b 133 10 v l.length (Kw l)/\∀p∈l,Xa w b p.1 p.2
def Eb.kp{L:List (Rd.Mth×Eh)}(h:Eb w u i L)(c:Kp e u w b)(f:some 133≠e)(g:some 31≠e)(j:some 3≠e)(m:some 267≠e)(q:some 266≠e):Eb b u i L :=
 ⟨Cx h.1 c f,fun p s=>(h.2 p s).kp c g j m q⟩
def Eb.mono{b':Nat}{L:List (Rd.Mth×Eh)}(h:Eb w u i L)(c:b'<=u):Eb w b' i L:=⟨D8 h.1 c,fun p e=>(h.2 p e).mono c⟩
def Bo1 (w:TW)(b:Nat)(v:TX)(ms:List Rd.Mth):Prop:=∃l,l.map Prod.fst=ms/\Eb w b v l
def Bv(w:TW)(o b:Obj):((w.alloc o).alloc b).heap[w.heap.size+1]?=some b:=by
 have:=Bf (w.alloc o) b;simpa using this
def Cb(w:TW)(o b:Obj):((w.alloc o).alloc b).heap[w.heap.size]?=some o:=by
 rw[Bvu _ _ _ Fr];exact Bf w o
def Kp.set_lo{b g i:Nat}(f:g<b)(u:TX):Kp e b w (w.setCell (.a g i) u):=by
 intro k h t j c _;rw[Bvg _ _ _ _ Fm];exact c
def tys_len(s:TB)(n:Nat)(t:Rd.St):(Rd.tys s n t).1.length=n:=Rd.rep_len _ _ _
def Bom(s:ByteArray)(B:Nat)(t:Rd.St)(w:TW)(h:s.size<=maxLen)(C:Ev w B s t):Calls prog 156 #[.q B 0] w fun e j => ∃v,e=.r (.agg #[.i (Rd.cls s.data.toList t).1.above,v])/\Dp j w.heap.size v (Rd.cls s.data.toList t).1.fields/\Ev j B s (Rd.cls s.data.toList t).2/\Gr B w j:=by
 have a7:=C.lt;unfold Rd.cls;dsimp only;generalize L:Rd.nx s.data.toList t=b;generalize D:Rd.cn s.data.toList 0 4 b.2=l;have F:=Rd.cn_bd s.data.toList 0 4 b.2 Bd;rw[D]at F;obtain⟨N,a8⟩:=F;have O:=Bc L;have Q:=Bc D;go_in;go_wp2_with fail;refine(Ih s B t _ h ((C.alloc _).alloc _)).mono ?_;rw[Ba O];rintro e V ⟨rfl,Y,c⟩;have Z:=(((Gr.refl B w).alloc _).alloc _).trans c;have m:=c.own (Bv w _ _) Bd;have hc:=c.own (Cb w _ _) Bd;have p:=Bb m 0;have f0:=Bj m 0;simp only[Byh,Bxq]at p;go_wp2_with fail;refine(Ln s B 0 4 b.2 _ h (Y.set Fm _)).mono ?_;rw[Ba Q];rintro e w2 ⟨rfl,a0,f⟩;have G:=(Z.set (.inl Fr) _).trans f;have a1:=f.own (Bq m _) Bd;have a2:=f.own ((Bvg V ⟨w.heap.size+1,0,none⟩ (.i b.1) w.heap.size Fr).trans hc) Bd;have a3:=c.size;have a4:=f.size;simp at a3 a4;go_wp2_with fail;refine(Wx s B l.1 l.2 _ h N Bd a0).mono ?_;rintro e w3 ⟨v,rfl,I,a5,z⟩;obtain⟨va,vc,rfl⟩:=Bg I;have a6:=G.size;have A:=z.own a1 Bd;have g:=z.own a2 Bd;have k1:=Bb A 1;have f1:=Bj A 1;have p:=Bb A 0;have J:=Bb g 0;have f2:=Bj g 0;have K:=Bb g 1;have f3:=Bj g 1;simp at p k1 J K;go_wp2_with fail;refine tb (.agg #[.i b.1,.s va l.1.toNat vc]) (by simp[results,results156,go_sem,J,K]) ?_;refine⟨_,rfl,?_,((a5.set Fm _).set Fm _).set Fm _,(((G.trans z).set (.inl Fr) _).set (.inl Fr) _).set (.inl Fr) _⟩;unfold Dp;rw[tys_len];exact D8 (Bx3 (Bx3 (Bx3 I Fm _) Fm _) Fm _) a6
def Tryz.infoInt:(prog.info? 3).map (fun i=>(i.zero,i.size,i.bytes))=some (some (.i 0),1,8):=Le
def Tryz.infoHandler:(prog.info? 267).map (fun i=>(i.zero,i.size,i.bytes))=some (some (.agg #[.i 0,.i 0,.i 0,.i 0]),4,32):=Le
def Bq5(s:ByteArray)(B:Nat)(t:Rd.St)(w:TW)(h:s.size<=maxLen)(j:Ev w B s t):Calls prog 207 #[.q B 0] w fun e b => ∃v,e=.returned v/\Du b w.heap.size v (Rd.codes s.data.toList t).1/\Ev b B s (Rd.codes s.data.toList t).2/\Gr B w b:=by
 have l:=j.lt;obtain⟨K,L,N,O,Q⟩:=Bv4 Tryz.infoInt;unfold Rd.codes Du;dsimp only;rw[Rd.rep_len];generalize m:Rd.cn s.data.toList 1 120 t=r;have z:=Rd.cn_bd s.data.toList 1 120 t Bd;rw[m]at z;obtain⟨a5,a6⟩:=z;have H:=Bc m;go_in;go_wp2_with fail;refine(Ln s B 1 120 t _ h j).mono ?_;rw[Ba H];rintro e w0 ⟨rfl,V,A⟩;have a7:=A.size;go_wp2
 go_loopw [3,5] (fun v i wr=>∃k:Nat,(k:Int)<=r.1/\i=.i k/\wr.ownsRow w.heap.size 3 1 v k ((Rd.rep (Rd.nx s.data.toList) k r.2).1.map (Value.int .i64))/\Ev wr B s (Rd.rep (Rd.nx s.data.toList) k r.2).2/\Gr B w wr)
  (fun _ i _=>r.1.toNat-(intOf i).toNat)
 case atStart=>exact⟨0,Bd,rfl,Bvl _ _ _ _,V,A⟩
 case round=>
  obtain⟨k,hk,rfl,C,D,c⟩:=hrel;have a8:=c.size;by_cases a9:(k:Int)<r.1
  ·generalize Y:Rd.rep (Rd.nx s.data.toList) k r.2=p at *;generalize Z:Rd.nx s.data.toList p.2=q at *;have HP:=Bc Y;have F:=Bc Z;go_wp2_with fail;refine(Ih s B p.2 _ h D).mono ?_;rw[Ba F];rintro e w1 ⟨rfl,a0,f⟩;have b0:=f.size;have g:=Bb9 C f l;go_wp2_with (at_builtin;refine Bvw _ rfl _ _ 26 rfl w.heap.size 3 K _ 1 8 Bxs L N O Q rfl Ck _ _ _ rfl (g.alloc _) ⟨w1.heap.size,0,none⟩ 1 1 [.i q.1] rfl rfl ?c1 ?c2 ?c3 ?c4 ?c5 ?_)
   case c1=>exact Dv _ _ _ _ rfl
   case c2=>intro u G;simp at G;subst G;rfl
   case c3=>unfold maxLen;omega
   case c4=>omega
   case c5=>simp;omega
   intro v' w2 a1 I _;have a2:=(a0.alloc _).grown I (Xv g l);have a3:=((c.trans f).alloc _).grown I (Xw g);have e1:(Rd.rep (Rd.nx s.data.toList) (k+1) r.2)=(p.1++[q.1],q.2):=by simp only[Rd.rep,Ba HP,Ba F]
   have a4:w2.ownsRow w.heap.size 3 1 v' (k+1) ((p.1++[q.1]).map (Value.int .i64)):=by simpa using a1
   have J:=Bc e1;go_wp2;go_roundw
   case rel=>exact⟨k+1,Bd,Lt,by rw[Ba J];exact a4,by rw[Ba J];exact a2,a3⟩
   case measure=>simp[intOf];omega
  have e:k=r.1.toNat:=Bd;subst e;go_wp2;go_ret;exact⟨_,rfl,C,D,c⟩
def Bg9(s:ByteArray)(B:Nat)(t:Rd.St)(w:TW)(h:s.size<=maxLen)(J:Ev w B s t):Calls prog 208 #[.q B 0] w fun e z => ∃v,e=.returned v/\J5 z w.heap.size v (Rd.hnds s.data.toList t).1/\Ev z B s (Rd.hnds s.data.toList t).2/\Gr B w z:=by
 have K:=J.lt;obtain⟨i0,hi,a7,a8,a9⟩:=Bv4 Tryz.infoHandler;unfold Rd.hnds J5;dsimp only;rw[Rd.rep_len];generalize L:Rd.cn s.data.toList 0 4 t=r;have N:=Rd.cn_bd s.data.toList 0 4 t Bd;rw[L]at N;obtain⟨d5,d6⟩:=N;have H:=Bc L;go_in;go_wp2_with fail;refine(Ln s B 0 4 t _ h J).mono ?_;rw[Ba H];rintro e w0 ⟨rfl,b0,O⟩;have d7:=O.size;go_wp2
 go_loopw [3,5] (fun v i wr=>∃k:Nat,(k:Int)<=r.1/\i=.i k/\wr.ownsRow w.heap.size 267 4 v k (Et (Rd.rep (Rd.hnd s.data.toList) k r.2).1)/\Ev wr B s (Rd.rep (Rd.hnd s.data.toList) k r.2).2/\Gr B w wr)
  (fun _ i _=>r.1.toNat-(intOf i).toNat)
 case atStart=>exact⟨0,Bd,rfl,Bvl _ _ _ _,b0,O⟩
 case round=>
  obtain⟨k,hk,rfl,Q,V,A⟩:=hrel;have d8:=A.size;by_cases d9:(k:Int)<r.1
  ·generalize hp:Rd.rep (Rd.hnd s.data.toList) k r.2=p at *;generalize Y:Rd.nx s.data.toList p.2=c;generalize Z:Rd.nx s.data.toList c.2=f;generalize a0:Rd.nx s.data.toList f.2=g;generalize a1:Rd.nx s.data.toList g.2=b;have HQ:Hid (Rd.hnd s.data.toList p.2=(⟨c.1,f.1,g.1,b.1⟩,b.2)):=by
    unfold Hid Rd.hnd;simp only[Y,Z,a0,a1]
   have HP:=Bc hp;have b1:=Bc Y;have b2:=Bc Z;have b3:=Bc a0;have b4:=Bc a1;have j:wr.heap.size≠B:=Bd;go_wp2_with fail;refine(Ih s B p.2 _ h (V.alloc _)).mono ?_;rw[Ba b1];rintro e w1 ⟨rfl,b5,a2⟩;have b6:=((Gr.refl B wr).alloc _).trans a2;have C:=a2.own (Bf wr _) j;have D:=Bb C 0;have f0:=Bj C 0;simp at D;go_wp2_with fail;refine(Ih s B c.2 _ h (b5.set Fm _)).mono ?_;rw[Ba b2];rintro e w2 ⟨rfl,b7,a3⟩;have b8:=(b6.set (.inl Fr) _).trans a3;have l:=a3.own (Bq C _) j;simp at l;have c1:=Bb l 1;have f1:=Bj l 1;simp at c1;go_wp2_with fail;refine(Ih s B f.2 _ h (b7.set Fm _)).mono ?_;rw[Ba b3];rintro e w3 ⟨rfl,b9,a4⟩;have c6:=(b8.set (.inl Fr) _).trans a4;have m:=a4.own (Bq l _) j;simp at m;have c2:=Bb m 2;have f2:=Bj m 2;simp at c2;go_wp2_with fail;refine(Ih s B g.2 _ h (b9.set Fm _)).mono ?_;rw[Ba b4];rintro e w4 ⟨rfl,c7,a5⟩;have c8:=(c6.set (.inl Fr) _).trans a5;have F:=a5.own (Bq m _) j;simp at F;obtain⟨D,c1,c2,c3⟩:=cl4 F;have f3:=Bj F 3;simp at D c1 c2 c3;have G:=c8.set (p:=.a wr.heap.size 3) (.inl Fr) (.i b.1);have I:=Bb9 Q G K;have c9:=c7.set (p:=.a wr.heap.size 3) Fm (.i b.1);have d0:=G.size;go_wp2_with (at_builtin;refine Bvw _ rfl _ _ 130 rfl w.heap.size 267 i0 _ 4 32 underlying130 hi a7 a8 a9 rfl Ck _ _ _ rfl (I.alloc _) ⟨w4.heap.size,0,none⟩ 1 1 [.i c.1,.i f.1,.i g.1,.i b.1] rfl rfl ?c1 ?c2 ?c3 ?c4 ?c5 ?_)
   case c1=>exact Dv _ _ _ _ Fr
   case c2=>intro u hu;simp at hu;rcases hu with rfl|rfl|rfl|rfl<;>rfl
   case c3=>unfold maxLen;omega
   case c4=>omega
   case c5=>simp at d0 ⊢;omega
   intro v' w5 d1 a6 _;have d2:=(c9.alloc _).grown a6 (Xv I K);have d3:=((A.trans G).alloc _).grown a6 (Xw I);have e1:(Rd.rep (Rd.hnd s.data.toList) (k+1) r.2)=(p.1++[⟨c.1,f.1,g.1,b.1⟩],b.2):=by simp only[Rd.rep,Ba HP,Ba HQ]
   have d4:w5.ownsRow w.heap.size 267 4 v' (k+1) (Et (p.1++[⟨c.1,f.1,g.1,b.1⟩])):=by rw[Baw];exact d1
   have HE:=Bc e1;go_wp2;go_roundw
   case rel=>exact⟨k+1,Bd,Lt,by rw[Ba HE];exact d4,by rw[Ba HE];exact d2,d3⟩
   case measure=>simp[intOf];omega
  have e:k=r.1.toNat:=Bd;subst e;go_wp2;go_ret;exact⟨_,rfl,Q,V,A⟩
def Tryz.infoMap:(prog.info? 266).map (fun i=>(i.zero,i.size,i.bytes))=some (some (.agg #[.i 0,.s none 0 0,.s none 0 0]),3,56):=Le
def Bqi(s:ByteArray)(B:Nat)(L H:Int)(t:Rd.St)(w:TW)(G:s.size<=maxLen)(f4:0<=L)(h2:L<=8)(f5:0<=H)(h3:H<=8)(hR:Ev w B s t):Calls prog 209 #[.q B 0,.i L,.i H] w fun e w' => ∃v l,e=.returned v/\l.map Prod.fst=(Rd.mps s.data.toList L H t).1/\Ob w' w.heap.size v l/\Ev w' B s (Rd.mps s.data.toList L H t).2/\Gr B w w':=by
 have m:=hR.lt;obtain⟨i0,hi,f6,f7,f8⟩:=Bv4 Tryz.infoMap;unfold Rd.mps;dsimp only;generalize hr:Rd.cn s.data.toList 0 64 t=r;have b4:=Rd.cn_bd s.data.toList 0 64 t Bd;rw[hr]at b4;obtain⟨h4,h5⟩:=b4;have HR:=Bc hr;clear hr;go_in;go_wp2_with fail;refine(Ln s B 0 64 t _ G hR).mono ?_;rw[Ba HR];rintro e w0 ⟨rfl,f9,b5⟩;have h6:=b5.size;go_wp2
 go_loopw [7,9] (fun v i wr=>∃(k:Nat) (l:List (Rd.Mp×Value×Value)),(k:Int)<=r.1/\i=.i k/\l.length=k/\l.map Prod.fst=(Rd.rep (Rd.mp s.data.toList L H) k r.2).1/\Ob wr w.heap.size v l/\Ev wr B s (Rd.rep (Rd.mp s.data.toList L H) k r.2).2/\Gr B w wr)
  (fun _ i _=>r.1.toNat-(intOf i).toNat)
 case atStart=>exact⟨0,[],Bd,rfl,rfl,rfl,⟨Bvl _ _ _ _,Fr⟩,f9,b5⟩
 case round=>
  obtain⟨k,l,hk,rfl,b6,a5,I,a6,N⟩:=hrel;have h7:=N.size;by_cases h8:(k:Int)<r.1
  ·generalize c:Rd.rep (Rd.mp s.data.toList L H) k r.2=p at *;generalize a7:Rd.nx s.data.toList p.2=z;generalize O:Rd.tys s.data.toList L.toNat z.2=h;generalize Q:Rd.cn s.data.toList 0 H h.2=f;generalize V:Rd.tys s.data.toList f.1.toNat f.2=j;have l2:h.1.length=L.toNat:=by rw[<- O];exact tys_len _ _ _
   have l4:j.1.length=f.1.toNat:=by rw[<- V];exact tys_len _ _ _
   have b7:=Rd.cn_bd s.data.toList 0 H h.2 f5;rw[Q]at b7;obtain⟨g0,h9⟩:=b7;have HQ:Hid (Rd.mp s.data.toList L H p.2=(⟨z.1,h.1,j.1⟩,j.2)):=by
    unfold Hid Rd.mp;simp only[a7,O,Q,V]
   have HP:=Bc c;have g1:=Bc a7;have g2:=Bc O;have g3:=Bc Q;have g4:=Bc V;have g5:=Bc l2;have g6:=Bc l4;have a8:=Bc b6;have g7:=Bc a5;clear c a7 O Q V l2 l4 b6 a5;have Y:wr.heap.size≠B:=Bd;go_wp2_with fail;refine(Ih s B p.2 _ G (a6.alloc _)).mono ?_;rw[Ba g1];rintro e w1 ⟨rfl,b8,Z⟩;have b9:=((Gr.refl B wr).alloc _).trans Z;have a0:=Z.own (Bf wr _) Y;have s1:=Z.size;simp at s1;have J:=Bb a0 0;have f0:=Bj a0 0;simp at J;go_wp2_with fail;clear J f0;refine(Wx s B L z.2 _ G f4 Bd (b8.set Fm _)).mono ?_;rw[Ba g2];rintro e w2 ⟨v1,rfl,a9,c6,b0⟩;obtain⟨va,vc,rfl⟩:=Bg a9;have c7:=(b9.set (.inl Fr) _).trans b0;have A:=b0.own (Bq a0 _) Y;simp at A;have c1:=Bb A 1;have f1:=Bj A 1;simp at c1;have c8:Dp w2 w.heap.size (.s va L.toNat vc) h.1:=by
    unfold Dp;rw[Ba g5];exact D8 a9 Fm
   clear a9;go_wp2_with fail;clear c1 f1;refine(Ln s B 0 H h.2 _ G (c6.set Fm _)).mono ?_;rw[Ba g3];rintro e w3 ⟨rfl,c9,a1⟩;have b1:=(c7.set (.inl Fr) _).trans a1;have b2:=a1.own (Bq A _) Y;simp at b2;have d0:=(c8.kp (Kp.set (i:=1) A (.s va L.toNat vc)) Ck).kp (Kp.of_gr (e:=none) a1 m) Ck;clear c8;go_wp2_with fail;refine(Wx s B f.1 f.2 _ G g0 Bd c9).mono ?_;rw[Ba g4];rintro e w4 ⟨v2,rfl,b3,d1,a2⟩;obtain⟨C,D,rfl⟩:=Bg b3;have d2:=b1.trans a2;have a3:=a2.own b2 Y;have d3:=d0.kp (Kp.of_gr (e:=none) a2 m) Ck;have s3:=b1.size;have d4:Dp w4 w.heap.size (.s C f.1.toNat D) j.1:=by
    unfold Dp;rw[Ba g6];exact D8 b3 Bd
   clear b3 d0;obtain⟨J,c1,c2⟩:=cl3 a3;have f2:=Bj a3 2;simp at J c1 c2;have g:=Kp.set (b:=w.heap.size) (i:=2) a3 (.s C f.1.toNat D);have F:=d2.set (p:=.a wr.heap.size 2) (.inl Fr) (.s C f.1.toNat D);have K:=Bb9 I.1 F m;have d5:=fun p c=>Bxh ((I.2 p c).1.kp (Kp.of_gr (e:=none) F m) Ck) ((I.2 p c).2.kp (Kp.of_gr (e:=none) F m) Ck);have d6:=d3.kp g Ck;have d7:=d4.kp g Ck;have d8:=d1.set (p:=.a wr.heap.size 2) Fm (.s C f.1.toNat D);have g8:=F.size;have d9:=Bc d5;clear d5 a0 A b2 a3 Z b0 a1 a2 b9 c7 b1 d2 b8 c6 c9 d1 d3 d4 g;go_wp2_with (at_builtin;refine Bvw _ rfl _ _ 131 rfl w.heap.size 266 i0 _ 3 56 underlying131 hi f6 f7 f8 rfl Ck _ _ _ rfl (K.alloc _) ⟨w4.heap.size,0,none⟩ 1 1 [.i z.1,.s va L.toNat vc,.s C f.1.toNat D] rfl rfl ?c1 ?c2 ?c3 ?c4 ?c5 ?_)
   case c1=>exact Dv _ _ _ _ Fr
   case c2=>intro u hu;simp at hu;rcases hu with rfl|rfl|rfl<;>rfl
   case c3=>have:=Ba a8;unfold maxLen;omega
   case c4=>have:=Ba a8;omega
   case c5=>simp at g8 ⊢;omega
   intro v' w5 f3 a4 _;have g9:=(d8.alloc _).grown a4 (Xv K m);have h0:=((N.trans F).alloc _).grown a4 (Xw K);have g:=(Kp.alloc (e:=some 266) (b:=w.heap.size) _ _).trans (Kp.of_grown a4 (K.alloc _));have h1:Ob w5 w.heap.size v' (l++[(⟨z.1,h.1,j.1⟩,.s va L.toNat vc,.s C f.1.toNat D)]):=by
    refine⟨?_,?_⟩
    ·rw[Xj,Up];exact f3
    intro p c;rw[Bwt]at c;rcases c with c|c
    ·exact⟨(Ba d9 p c).1.kp g Ck,(Ba d9 p c).2.kp g Ck⟩
    simp only[Bxa]at c;subst c;exact⟨d6.kp g Ck,d7.kp g Ck⟩
   have e1:(Rd.rep (Rd.mp s.data.toList L H) (k+1) r.2)=(p.1++[⟨z.1,h.1,j.1⟩],j.2):=by simp only[Rd.rep,Ba HP,Ba HQ]
   have HE:=Bc e1;have HK:=Bc g;clear e1 a4 K f3 a6 d8 F N J c1 c2 f2 g d6 d7 I;go_wp2;go_roundw
   case rel=>exact⟨k+1,_,Bd,Lt,by rw[Up,Ba a8];rfl,by rw[Ba HE,Bvx,Ba g7];rfl,h1,by rw[Ba HE];exact g9,h0⟩
   case measure=>simp[intOf];omega
  have e:k=r.1.toNat:=Bd;subst e;go_wp2;go_ret;exact⟨_,rfl,l,a5,I,a6,N⟩
def D7{o:Obj}(h:w.heap[k]?=some o){p:Addr}(b:k≠p.block)(u:TX):(w.setCell p u).heap[k]?=some o:=by
 rw[Bvg _ _ _ _ b];exact h
def Bkt(s:ByteArray)(B:Nat)(t:Rd.St)(w:TW)(m:s.size<=maxLen)(hR:Ev w B s t):Calls prog 157 #[.q B 0] w fun e w' => ∃a1 m1 d1 a2 m2 d2 a3 m3 d3 v m4 z,e=.r (.agg #[.i (Rd.mth s.data.toList t).1.cl,.i (Rd.mth s.data.toList t).1.name,.s a1 m1 d1,.i (Rd.mth s.data.toList t).1.result.1,.i (Rd.mth s.data.toList t).1.result.2,.i (Rd.mth s.data.toList t).1.locals,.i (Rd.mth s.data.toList t).1.stack,.s a2 m2 d2,.s a3 m3 d3,.s v m4 z])/\Xa w' w.heap.size (Rd.mth s.data.toList t).1 ⟨.s a1 m1 d1,.s a2 m2 d2,.s a3 m3 d3,.s v m4 z⟩/\Ev w' B s (Rd.mth s.data.toList t).2/\Gr B w w':=by
 have G:=hR.lt;unfold Rd.mth;dsimp only;generalize i0:Rd.nx s.data.toList t=Q;generalize i1:Rd.nx s.data.toList Q.2=K;generalize h1:Rd.cn s.data.toList 0 4 K.2=h;generalize h2:Rd.tys s.data.toList h.1.toNat h.2=q4;generalize i2:Rd.ty s.data.toList q4.2=g;generalize h3:Rd.cn s.data.toList 0 8 g.2=j;generalize h4:Rd.cn s.data.toList 0 8 j.2=A;generalize i3:Rd.codes s.data.toList A.2=I;generalize i4:Rd.hnds s.data.toList I.2=C;generalize i5:Rd.mps s.data.toList j.1 A.1 C.2=k4;have l4:q4.1.length=h.1.toNat:=by rw[<- h2];exact tys_len _ _ _
 have b3:=Rd.cn_bd s.data.toList 0 4 K.2 Bd;have b6:=Rd.cn_bd s.data.toList 0 8 g.2 Bd;have b7:=Rd.cn_bd s.data.toList 0 8 j.2 Bd;rw[h1]at b3;rw[h3]at b6;rw[h4]at b7;obtain⟨i6,k5⟩:=b3;obtain⟨i7,i8⟩:=b6;obtain⟨i9,j0⟩:=b7;have j1:=Bc l4;have Q1:=Bc i0;have Q2:=Bc i1;have Q3:=Bc h1;have Q4:=Bc h2;have Q5:=Bc i2;have Q6:=Bc h3;have Q7:=Bc h4;have Q8:=Bc i3;have Q9:=Bc i4;have j2:=Bc i5;have D:w.heap.size+1≠B:=Bd;have F:w.heap.size≠B:=Bd;go_in;go_wp2_with fail;refine(Ih s B t _ m ((hR.alloc _).alloc _)).mono ?_;rw[Ba Q1];rintro e w1 ⟨rfl,j3,b0⟩;have G1:=(((Gr.refl B w).alloc _).alloc _).trans b0;have B1:=b0.own (Bv w _ _) D;have C1:=b0.own (Cb w _ _) F;have S1:=b0.size;simp at S1;have c0:=Bb B1 0;have f0:=Bj B1 0;simp at c0;go_wp2_with fail;refine(Ih s B Q.2 _ m (j3.set Fm _)).mono ?_;rw[Ba Q2];rintro e w2 ⟨rfl,j4,d5⟩;have G2:=(G1.set (.inl Fr) _).trans d5;have B2:=d5.own (Bq (i:=0) B1 (.i Q.1)) D;have C2:=d5.own (D7 C1 (p:=.a (w.heap.size+1) 0) Fr (.i Q.1)) F;simp at B2;have S2:=G2.size;have c1:=Bb B2 1;have f1:=Bj B2 1;simp at c1;go_wp2_with fail;refine(Ln s B 0 4 K.2 _ m (j4.set Fm _)).mono ?_;rw[Ba Q3];rintro e w3 ⟨rfl,j5,d6⟩;have G3:=(G2.set (.inl Fr) _).trans d6;have B3:=d6.own (Bq (i:=1) B2 (.i K.1)) D;have C3:=d6.own (D7 C2 (p:=.a (w.heap.size+1) 1) Fr (.i K.1)) F;simp at B3;have S3:=G3.size;go_wp2_with fail;refine(Wx s B h.1 h.2 _ m i6 Bd j5).mono ?_;rw[Ba Q4];rintro e w4 ⟨v4,rfl,h5,j6,d7⟩;have G4:=G3.trans d7;have B4:=d7.own B3 D;have C4:=d7.own C3 F;have S4:=G4.size;obtain⟨v,z,rfl⟩:=Bg h5;have c:Dp w4 w.heap.size (.s v h.1.toNat z) q4.1:=by
  unfold Dp;rw[Ba j1];exact D8 h5 Bd
 have c2:=Bb B4 2;have f2:=Bj B4 2;simp at c2;have c:=c.kp (Kp.set (i:=2) B4 (.s v h.1.toNat z)) Ck;go_wp2_with fail;refine(Bar s B q4.2 _ m (j6.set Fm _)).mono ?_;rw[Ba Q5];rintro e w5 ⟨rfl,j7,b1⟩;have G5:=(G4.set (.inl Fr) _).trans b1;have L:=b1.own (Bq (i:=2) B4 (.s v h.1.toNat z)) D;have C5:=b1.own (D7 C4 (p:=.a (w.heap.size+1) 2) Fr (.s v h.1.toNat z)) F;simp at L;have S5:=G5.size;have c:=(c).kp (Kp.of_gr (e:=none) b1 G) Ck;have c3:=Bb L 3;have f3:=Bj L 3;simp at c3;have c4:=Bb L 4;have f4:=Bj L 4;simp at c4;have c:=c.kp (Kp.set (i:=3) L (.i g.1.1)) Ck;have c:=c.kp (Kp.set (i:=4) (Bq (i:=3) L (.i g.1.1)) (.i g.1.2)) Ck;go_wp2_with fail;refine(Ln s B 0 8 g.2 _ m ((j7.set Fm _).set Fm _)).mono ?_;rw[Ba Q6];rintro e w6 ⟨rfl,j8,b2⟩;have G6:=((G5.set (.inl Fr) _).set (.inl Fr) _).trans b2;have B6:=b2.own (Bq (i:=4) (Bq (i:=3) L (.i g.1.1)) (.i g.1.2)) D;have C6:=b2.own (D7 (D7 C5 (p:=.a (w.heap.size+1) 3) Fr (.i g.1.1)) (p:=.a (w.heap.size+1) 4) Fr (.i g.1.2)) F;simp at B6;have S6:=G6.size;have c:=(c).kp (Kp.of_gr (e:=none) b2 G) Ck;have c5:=Bb B6 5;have f5:=Bj B6 5;simp at c5;have c:=c.kp (Kp.set (i:=5) B6 (.i j.1)) Ck;go_wp2_with fail;refine(Ln s B 0 8 j.2 _ m (j8.set Fm _)).mono ?_;rw[Ba Q7];rintro e w7 ⟨rfl,j9,b4⟩;have G7:=(G6.set (.inl Fr) _).trans b4;have B7:=b4.own (Bq (i:=5) B6 (.i j.1)) D;have C7:=b4.own (D7 C6 (p:=.a (w.heap.size+1) 5) Fr (.i j.1)) F;simp at B7;have S7:=G7.size;have c:=(c).kp (Kp.of_gr (e:=none) b4 G) Ck;have c6:=Bb B7 6;have f6:=Bj B7 6;simp at c6;have c:=c.kp (Kp.set (i:=6) B7 (.i A.1)) Ck;go_wp2_with fail;refine(Bq5 s B A.2 _ m (j9.set Fm _)).mono ?_;rw[Ba Q8];rintro e w8 ⟨v8,rfl,h6,k0,b5⟩;have G8:=(G7.set (.inl Fr) _).trans b5;have B8:=b5.own (Bq (i:=6) B7 (.i A.1)) D;have C8:=b5.own (D7 C7 (p:=.a (w.heap.size+1) 6) Fr (.i A.1)) F;simp at B8;have S8:=G8.size;obtain⟨V,Y,rfl⟩:=Bg h6;have l:=h6.mono (b':=w.heap.size) Fm;have c:=(c).kp (Kp.of_gr (e:=none) b5 G) Ck;have c7:=Bb B8 7;have f7:=Bj B8 7;simp at c7;have c:=c.kp (Kp.set (i:=7) B8 (.s V I.1.length Y)) Ck;have l:=l.kp (Kp.set (i:=7) B8 (.s V I.1.length Y)) Ck;go_wp2_with fail;refine(Bg9 s B I.2 _ m (k0.set Fm _)).mono ?_;rw[Ba Q9];rintro e w9 ⟨v9,rfl,h7,k1,a5⟩;have G9:=(G8.set (.inl Fr) _).trans a5;have J:=a5.own (Bq (i:=7) B8 (.s V I.1.length Y)) D;have C9:=a5.own (D7 C8 (p:=.a (w.heap.size+1) 7) Fr (.s V I.1.length Y)) F;simp at J;have S9:=G9.size;obtain⟨N,O,rfl⟩:=Bg h7;have Z:=h7.mono (b':=w.heap.size) Fm;have c:=(c).kp (Kp.of_gr (e:=none) a5 G) Ck;have l:=(l).kp (Kp.of_gr (e:=none) a5 G) Ck;have c8:=Bb J 8;have f8:=Bj J 8;simp at c8;have c:=c.kp (Kp.set (i:=8) J (.s N C.1.length O)) Ck;have l:=l.kp (Kp.set (i:=8) J (.s N C.1.length O)) Ck;have Z:=Z.kp (Kp.set (i:=8) J (.s N C.1.length O)) Ck;have c5:=Bb J 5;have c6:=Bb J 6;simp at c5 c6;go_wp2_with fail;refine(Bqi s B j.1 A.1 C.2 _ m i7 i8 i9 j0 (k1.set Fm _)).mono ?_;rw[Ba j2];rintro e k6 ⟨k7,a6,rfl,k2,h8,k3,a0⟩;have h9:=(G9.set (.inl Fr) _).trans a0;have a7:=a0.own (Bq (i:=8) J (.s N C.1.length O)) D;have f:=a0.own (D7 C9 (p:=.a (w.heap.size+1) 8) Fr (.s N C.1.length O)) F;simp at a7;have k8:=h9.size;obtain⟨b8,b9,rfl⟩:=Bg h8.1;have h0:=h8.mono (b':=w.heap.size) Fm;have c:=(c).kp (Kp.of_gr (e:=none) a0 G) Ck;have l:=(l).kp (Kp.of_gr (e:=none) a0 G) Ck;have Z:=(Z).kp (Kp.of_gr (e:=none) a0 G) Ck;have c9:=Bb a7 9;have f9:=Bj a7 9;simp at c9;obtain⟨c0,c1,c2,c3,c4,c5,c6,c7,c8⟩:=cl9 a7;simp at c0 c1 c2 c3 c4 c5 c6 c7 c8;have z0:=Bb f 0;have g0:=Bj f 0;have z1:=Bb f 1;have g1:=Bj f 1;have z2:=Bb f 2;have g2:=Bj f 2;have z3:=Bb f 3;have g3:=Bj f 3;have z4:=Bb f 4;have g4:=Bj f 4;have z5:=Bb f 5;have g5:=Bj f 5;have z6:=Bb f 6;have g6:=Bj f 6;have z7:=Bb f 7;have g7:=Bj f 7;have z8:=Bb f 8;have g8:=Bj f 8;have z9:=Bb f 9;have g9:=Bj f 9;simp at z0 z1 z2 z3 z4 z5 z6 z7 z8 z9;have d0:=Kp.set (b:=w.heap.size) (i:=9) a7 (.s b8 a6.length b9);have c:=c.kp d0 Ck;have l:=l.kp d0 Ck;have Z:=Z.kp d0 Ck;have h0:=h0.kp d0 Ck Ck;go_wp2_with fail;refine tb (.agg #[.i Q.1,.i K.1,.s v h.1.toNat z,.i g.1.1,.i g.1.2,.i j.1,.i A.1,.s V I.1.length Y,.s N C.1.length O,.s b8 a6.length b9]) (by simp[results,results157,go_sem,z0,z1,z2,z3,z4,z5,z6,z7,z8,z9]) ?_;refine⟨_,_,_,_,_,_,_,_,_,_,_,_,rfl,?_,?_,?_⟩;have E0:=(D7 f (p:=.a (w.heap.size+1) 9) Fr (.s b8 a6.length b9));have F0:=Kp.set (b:=w.heap.size) (i:=0) E0 (.i Q.1);have E1:=Bq (i:=0) E0 (.i Q.1);have F1:=F0.trans (Kp.set (b:=w.heap.size) (i:=1) E1 (.i K.1));have E2:=Bq (i:=1) E1 (.i K.1);have F2:=F1.trans (Kp.set (b:=w.heap.size) (i:=2) E2 (.s v h.1.toNat z));have E3:=Bq (i:=2) E2 (.s v h.1.toNat z);have F3:=F2.trans (Kp.set (b:=w.heap.size) (i:=3) E3 (.i g.1.1));have E4:=Bq (i:=3) E3 (.i g.1.1);have F4:=F3.trans (Kp.set (b:=w.heap.size) (i:=4) E4 (.i g.1.2));have E5:=Bq (i:=4) E4 (.i g.1.2);have F5:=F4.trans (Kp.set (b:=w.heap.size) (i:=5) E5 (.i j.1));have E6:=Bq (i:=5) E5 (.i j.1);have F6:=F5.trans (Kp.set (b:=w.heap.size) (i:=6) E6 (.i A.1));have E7:=Bq (i:=6) E6 (.i A.1);have F7:=F6.trans (Kp.set (b:=w.heap.size) (i:=7) E7 (.s V I.1.length Y));have E8:=Bq (i:=7) E7 (.s V I.1.length Y);have F8:=F7.trans (Kp.set (b:=w.heap.size) (i:=8) E8 (.s N C.1.length O));have E9:=Bq (i:=8) E8 (.s N C.1.length O);have F9:=F8.trans (Kp.set (b:=w.heap.size) (i:=9) E9 (.s b8 a6.length b9))
 ·exact⟨c.kp F9 Ck,l.kp F9 Ck,Z.kp F9 Ck,a6,k2,h0.kp F9 Ck Ck⟩
 ·exact(((((((((((k3.set Fm _).set Fm _).set Fm _).set Fm _).set Fm _).set Fm _).set Fm _).set Fm _).set Fm _).set Fm _).set Fm _)
 exact(((((((((((h9.set (.inl Fr) _).set (.inl Fr) _).set (.inl Fr) _).set (.inl Fr) _).set (.inl Fr) _).set (.inl Fr) _).set (.inl Fr) _).set (.inl Fr) _).set (.inl Fr) _).set (.inl Fr) _).set (.inl Fr) _)
def Tryz.infoClass:(prog.info? 139).map (fun i=>(i.zero,i.size,i.bytes))=some (some (.agg #[.i 0,.s none 0 0]),2,32):=Le
def Tryz.infoMethod:(prog.info? 133).map (fun i=>(i.zero,i.size,i.bytes))=some (some (.agg #[.i 0,.i 0,.s none 0 0,.i 0,.i 0,.i 0,.i 0,.s none 0 0,.s none 0 0,.s none 0 0]),10,144):=Le
def Bbn(s:ByteArray)(B:Nat)(t:Rd.St)(w:TW)(hs:s.size<=maxLen)(hR:Ev w B s t):Calls prog 104 #[.q B 0] w fun e w' => ∃a1 K c1 a2 n2 c2 l1 l2,e=.r (.agg #[.s a1 K c1,.s a2 n2 c2])/\l1.map Prod.fst=(Rd.fil s.data.toList t).1.classes/\Ex w' w.heap.size (.s a1 K c1) l1/\l2.map Prod.fst=(Rd.fil s.data.toList t).1.methods/\Eb w' w.heap.size (.s a2 n2 c2) l2/\Ev w' B s (Rd.fil s.data.toList t).2/\Gr B w w':=by
 have a8:=hR.lt;obtain⟨i0,hi,f4,f5,f6⟩:=Bv4 Tryz.infoClass;obtain⟨j0,hj,f7,f8,f9⟩:=Bv4 Tryz.infoMethod;unfold Rd.fil;dsimp only;generalize d6:Rd.ex s.data.toList 83 t=q1;generalize d7:Rd.ex s.data.toList 77 q1=q2;generalize b8:Rd.cn s.data.toList 0 6 q2=C;generalize d8:Rd.rep (Rd.cls s.data.toList) C.1.toNat C.2=q4;generalize b9:Rd.cn s.data.toList 1 6 q4.2=q5;have b3:=Rd.cn_bd s.data.toList 0 6 q2 Bd;rw[b8]at b3;obtain⟨g9,h0⟩:=b3;have b5:=Rd.cn_bd s.data.toList 1 6 q4.2 Bd;rw[b9]at b5;obtain⟨h1,h2⟩:=b5;have Q4:=Bc d8;have Q5:=Bc b9;have Q1:=Bc d6;have Q2:=Bc d7;have Q3:=Bc b8;clear d6 d7 b8 d8 b9;have K:w.heap.size+1≠B:=Bd;have n0:w.heap.size≠B:=Bd;go_in;go_wp2_with fail;refine(Bcn s B 83 t _ hs ((hR.alloc _).alloc _)).mono ?_;rw[Ba Q1];rintro e w1 ⟨rfl,d9,b2⟩;have G1:=(((Gr.refl B w).alloc _).alloc _).trans b2;have B1:=b2.own (Bv w _ _) K;have C1:=b2.own (Cb w _ _) n0;go_wp2_with fail;refine(Bcn s B 77 q1 _ hs d9).mono ?_;rw[Ba Q2];rintro e w2 ⟨rfl,f2,b4⟩;have G2:=G1.trans b4;have B2:=b4.own B1 K;have C2:=b4.own C1 n0;go_wp2_with fail;refine(Ln s B 0 6 q2 _ hs f2).mono ?_;rw[Ba Q3];rintro e w3 ⟨rfl,f3,b6⟩;have G3:=G2.trans b6;have B3:=b6.own B2 K;have C3:=b6.own C2 n0;clear G1 G2 B1 B2 C1 C2 b2 b4 b6 d9 f2;go_wp2
 go_loopw [5] (fun i wr=>∃(k:Nat) (l:List (Rd.Cls×Value)) (v:TX),(k:Int)<=C.1/\i=.i k/\l.length=k/\l.map Prod.fst=(Rd.rep (Rd.cls s.data.toList) k C.2).1/\Ex wr w.heap.size v l /\
   wr.heap[w.heap.size+1]?=some (.cells #[v,.s none 0 0] 84 (0,0))/\wr.heap[w.heap.size]?=some (O1 none 0 0 none 0 0) /\
   Ev wr B s (Rd.rep (Rd.cls s.data.toList) k C.2).2/\Gr B w wr)
  (fun i _=>C.1.toNat-(intOf i).toNat)
 case atStart=>exact⟨0,[],_,Bd,rfl,rfl,rfl,⟨Bvl _ _ _ _,Fr⟩,B3,C3,f3,G3⟩
 case round=>
  obtain⟨k,l,v,hk,rfl,a5,L,D,hB,g,N,F⟩:=hrel;have b7:=F.size;by_cases g2:(k:Int)<C.1
  ·generalize c:Rd.rep (Rd.cls s.data.toList) k C.2=p at *;generalize hq:Rd.cls s.data.toList p.2=q;have HP:=Bc c;have HQ:=Bc hq;have a6:=Bc a5;have c0:=Bc L;clear c hq a5 L;go_wp2_with fail;refine(Bom s B p.2 _ hs N).mono ?_;rw[Ba HQ];rintro e w4 ⟨u,rfl,G,a0,f⟩;obtain⟨ua,uc,rfl⟩:=Bg G;have h:=f.own hB K;have a9:=f.own g n0;have I:=F.trans f;have g3:=I.size;obtain⟨va,vc,rfl⟩:=Bg D.1;have O:=D.kp (Kp.of_gr (e:=none) f a8) Ck Ck;have b0:=G.mono b7;have x0:=Bb h 0;have f0:=Bj h 0;have g4:=Pk h;have g5:=Bc O.2;have j:=O.1;simp at x0;clear G D O;go_wp2_with (at_builtin;refine Bvw _ rfl _ _ 81 rfl w.heap.size 139 i0 _ 2 32 underlying81 hi f4 f5 f6 rfl Ck _ _ _ rfl ((j.alloc _).alloc _) ⟨w4.heap.size+1,0,none⟩ 1 1 [.i q.1.above,.s ua q.1.fields.length uc] rfl rfl ?c1 ?c2 ?c3 ?c4 ?c5 ?_)
   case c1=>exact Dv _ _ _ _ Fr
   case c2=>intro u hu;simp at hu;rcases hu with rfl|rfl<;>rfl
   case c3=>have:=Ba a6;unfold maxLen;omega
   case c4=>have:=Ba a6;omega
   case c5=>simp;omega
   intro v' w5 a7 Q _;obtain⟨z,A,rfl⟩:=Bg a7;have c6:=((a0.alloc _).alloc _).grown Q (Xv j a8);have c7:=((I.alloc _).alloc _).grown Q (Xw j);have J:=((Kp.alloc (e:=some 139) (b:=0) _ _).trans (Kp.alloc _ _)).trans (Kp.of_grown Q ((j.alloc _).alloc _));have V:=J _ _ _ (Bv5 _) h Ck;have c8:=J _ _ _ (Bv5 _) a9 Ck;have x1:=Bb V 0;have f1:=Bj V 0;simp at x1;have Y:Kp (some 139) w.heap.size w4 w5:=fun k cs t _ hc G=>J k cs t (Bv5 _) hc G;have c9:Ex (w5.setCell (.a (w.heap.size+1) 0) (.s z (l.length+1) A)) w.heap.size (.s z (l.length+1) A) (l++[(q.1,.s ua q.1.fields.length uc)]):=by
    have Z:=Kp.set (b:=w.heap.size) (i:=0) V (.s z (l.length+1) A);refine⟨?_,?_⟩
    ·rw[Ba6,Up];exact Cx a7 Z Ck
    intro p c;rw[Bwt]at c;rcases c with c|c
    ·exact((Ba g5 p c).kp Y Ck).kp Z Ck
    simp only[Bxa]at c;subst c;exact(b0.kp Y Ck).kp Z Ck
   have e1:(Rd.rep (Rd.cls s.data.toList) (k+1) C.2)=(p.1++[q.1],q.2):=by simp only[Rd.rep,Ba HP,Ba HQ]
   have HE:=Bc e1;have HB:=Bq (i:=0) V (.s z (l.length+1) A);have HC:=D7 c8 (p:=.a (w.heap.size+1) 0) Fr (.s z (l.length+1) A);have HK:=Bc J;have h3:=Bc Y;clear e1 Q j a7 N a0 f I F x0 f0 J Y b0 hB g h a9;go_wp2;go_roundw
   case rel=>exact⟨k+1,_,_,Bd,Lt,by rw[Up,Ba a6];rfl,by rw[Ba HE,Bvx,Ba c0];rfl,c9,HB,HC,by rw[Ba HE];exact c6.set Fm _,c7.set (.inl Fr) _⟩
   case measure=>simp[intOf];omega
  have e:k=C.1.toNat:=Bd;subst e;clear f3 G3 B3 C3;rw[Ba Q4]at L N;have c0:=Bc L;clear L a5;obtain⟨va,vc,rfl⟩:=Bg D.1;go_wp2_with fail;refine(Ln s B 1 6 q4.2 _ hs N).mono ?_;rw[Ba Q5];rintro e w4 ⟨rfl,a0,f⟩;have I:=F.trans f;have B4:=f.own hB K;have C4:=f.own g n0;have O:=D.kp (Kp.of_gr (e:=none) f a8) Ck Ck;clear hB g D F f N hk b7;go_wp2
  go_loopw [8] (fun i wr=>∃(k:Nat) (m:List (Rd.Mth×Eh)) (v:TX),(k:Int)<=q5.1/\i=.i k/\m.length=k/\m.map Prod.fst=(Rd.rep (Rd.mth s.data.toList) k q5.2).1/\Eb wr w.heap.size v m /\
    Ex wr w.heap.size (.s va l.length vc) l /\
    wr.heap[w.heap.size+1]?=some (.cells #[.s va l.length vc,v] 84 (0,0))/\wr.heap[w.heap.size]?=some (O1 none 0 0 none 0 0) /\
    Ev wr B s (Rd.rep (Rd.mth s.data.toList) k q5.2).2/\Gr B w wr)
   (fun i _=>q5.1.toNat-(intOf i).toNat)
  case atStart=>exact⟨0,[],_,Bd,rfl,rfl,rfl,⟨Bvl _ _ _ _,Fr⟩,O,B4,C4,a0,I⟩
  case round=>
   clear O B4 C4 a0 I;obtain⟨k,m,v,hk,rfl,a5,L,b1,D,hB,g,N,F⟩:=hrel;have b7:=F.size;by_cases g2:(k:Int)<q5.1
   ·generalize c:Rd.rep (Rd.mth s.data.toList) k q5.2=p at *;generalize hq:Rd.mth s.data.toList p.2=q;have HP:=Bc c;have HQ:=Bc hq;have a6:=Bc a5;have g6:=Bc L;clear c hq a5 L;obtain⟨vb,vd,rfl⟩:=Bg b1.1;go_wp2_with fail;refine(Bkt s B p.2 _ hs N).mono ?_;rw[Ba HQ];rintro e w4 ⟨a1,m1,d1,a2,m2,d2,a3,m3,d3,a4,m4,d4,rfl,G,a0,f⟩;have h:=f.own hB K;have a9:=f.own g n0;have I:=F.trans f;have g3:=I.size;have d0:=b1.kp (Kp.of_gr (e:=none) f a8) Ck Ck Ck Ck Ck;have O:=D.kp (Kp.of_gr (e:=none) f a8) Ck Ck;have b0:=G.mono b7;have x0:=Bb h 1;have f0:=Bj h 1;have g4:=Pk h;have g7:=Bc d0.2;have j:=d0.1;simp at x0;clear G b1 d0 D;go_wp2_with (at_builtin;refine Bvw _ rfl _ _ 82 rfl w.heap.size 133 j0 _ 10 144 underlying82 hj f7 f8 f9 rfl Ck _ _ _ rfl ((j.alloc _).alloc _) ⟨w4.heap.size+1,0,none⟩ 1 1 (Ly q.1 ⟨.s a1 m1 d1,.s a2 m2 d2,.s a3 m3 d3,.s a4 m4 d4⟩) rfl rfl ?d1 ?d2 ?d3 ?d4 ?d5 ?_)
    case d1=>exact Dv _ _ _ _ Fr
    case d2=>intro u hu;simp[Ly]at hu;rcases hu with rfl|rfl|rfl|rfl|rfl|rfl|rfl|rfl|rfl|rfl<;>rfl
    case d3=>have:=Ba a6;unfold maxLen;omega
    case d4=>have:=Ba a6;omega
    case d5=>simp;omega
    intro v' w5 a7 Q _;obtain⟨z,A,rfl⟩:=Bg a7;have c6:=((a0.alloc _).alloc _).grown Q (Xv j a8);have c7:=((I.alloc _).alloc _).grown Q (Xw j);have J:=((Kp.alloc (e:=some 133) (b:=0) _ _).trans (Kp.alloc _ _)).trans (Kp.of_grown Q ((j.alloc _).alloc _));have V:=J _ _ _ (Bv5 _) h Ck;have c8:=J _ _ _ (Bv5 _) a9 Ck;have x1:=Bb V 1;have f1:=Bj V 1;simp at x1;have Y:Kp (some 133) w.heap.size w4 w5:=fun k cs t _ hc G=>J k cs t (Bv5 _) hc G;have Z:=Kp.set (b:=w.heap.size) (i:=1) V (.s z (m.length+1) A);have g8:Eb (w5.setCell (.a (w.heap.size+1) 1) (.s z (m.length+1) A)) w.heap.size (.s z (m.length+1) A) (m++[(q.1,⟨.s a1 m1 d1,.s a2 m2 d2,.s a3 m3 d3,.s a4 m4 d4⟩)]):=by
     refine⟨?_,?_⟩
     ·rw[Ac,Up];exact Cx a7 Z Ck
     intro p c;rw[Bwt]at c;rcases c with c|c
     ·exact((Ba g7 p c).kp Y Ck Ck Ck Ck).kp Z Ck Ck Ck Ck
     simp only[Bxa]at c;subst c;exact(b0.kp Y Ck Ck Ck Ck).kp Z Ck Ck Ck Ck
    have c9:=(O.kp Y Ck Ck).kp Z Ck Ck;have e1:(Rd.rep (Rd.mth s.data.toList) (k+1) q5.2)=(p.1++[q.1],q.2):=by simp only[Rd.rep,Ba HP,Ba HQ]
    have HE:=Bc e1;have HB:=Bq (i:=1) V (.s z (m.length+1) A);have HC:=D7 c8 (p:=.a (w.heap.size+1) 1) Fr (.s z (m.length+1) A);clear e1 Q j a7 N a0 f I F x0 f0 J Y b0 hB g h a9 Z O;go_wp2;go_roundw
    case rel=>exact⟨k+1,_,_,Bd,Lt,by rw[Up,Ba a6];rfl,by rw[Ba HE,Bvx,Ba g6];rfl,g8,c9,HB,HC,by rw[Ba HE];exact c6.set Fm _,c7.set (.inl Fr) _⟩
    case measure=>simp[intOf];omega
   have e:k=q5.1.toNat:=Bd;subst e;obtain⟨vb,vd,rfl⟩:=Bg b1.1;clear a5;obtain⟨x0,x1⟩:=cl2 hB;obtain⟨y0,y1⟩:=cl2 g;obtain⟨g0,g1⟩:=fr2 g;simp at x0 x1 y0 y1;go_wp2_with fail;refine tb (.agg #[.s va l.length vc,.s vb m.length vd]) (by simp[results,results104,go_sem,y0,y1]) ?_;have k1:=(Kp.set (b:=w.heap.size) (i:=0) g (.s va l.length vc)).trans (Kp.set (i:=1) (Bq (i:=0) g (.s va l.length vc)) (.s vb m.length vd));refine⟨_,_,_,_,_,_,rfl,l,Ba c0,D.kp k1 Ck Ck,m,L,b1.kp k1 Ck Ck Ck Ck Ck,?_,?_⟩
   ·exact(N.set Fm _).set Fm _
   exact(F.set (.inl Fr) _).set (.inl Fr) _
def Rd.read(s:TB):Rd.Fil × Int :=
 if 15000<s.length then (⟨[],[]⟩,1)
 else if (Rd.fil s ⟨0,false⟩).2.bad=true\/(Rd.fil s ⟨0,false⟩).2.pos≠s.length then (⟨[],[]⟩,2)
 else ((Rd.fil s ⟨0,false⟩).1,0)
def Bpw(s:ByteArray)(w:TW)(L:s.size<=maxLen):Calls prog 67 #[.string s] w fun e g => ∃h j l m p t,e=.r (.tuple #[.agg #[.s h j l,.s m p t],.i (Rd.read s.data.toList).2])/\Bo3 g w.heap.size (.s h j l) (Rd.read s.data.toList).1.classes/\Bo1 g w.heap.size (.s m p t) (Rd.read s.data.toList).1.methods/\Bl w g:=by
 have a9:s.data.toList.length=s.size:=Fr;unfold Rd.read;rw[a9];have b0:∀g:TW,Bo3 g w.heap.size (.s none 0 0) []:=fun g=>⟨[],rfl,Bvl _ _ _ _,Fr⟩;have b1:∀g:TW,Bo1 g w.heap.size (.s none 0 0) []:=fun g=>⟨[],rfl,Bvl _ _ _ _,Fr⟩;have N:=Bc b0;have O:=Bc b1;by_cases h1:15000<s.size;·rw[Sp h1];have b2:(15000:Int)<(s.size:Int):=Bd;go_in;go_wp2;refine tb (.tuple #[.agg #[.s none 0 0,.s none 0 0],.i 1]) (by simp[results,Bzl,go_sem]) ?_;exact⟨none,0,0,none,0,0,rfl,Ba N _,Ba O _,QN _⟩
 rw[Pf h1];generalize hq:Rd.fil s.data.toList ⟨0,false⟩=q;have Q:=Bc hq;have b2:¬(15000:Int)<(s.size:Int):=Bd;have V:Ev ((w.alloc (O1 none 0 0 none 0 0)).alloc (O0 s 0 false)) (w.heap.size+1) s ⟨0,false⟩:=Bv w _ _;cases a7:q.2.bad with
 | true =>
  rw[Sp (.inl rfl)];have K:=Bc a7;go_in;go_wp2_with fail;refine(Bbn s (w.heap.size+1) ⟨0,false⟩ _ L V).mono ?_;rw[Ba Q];rintro e B ⟨h,j,l,m,p,t,Y,Z,rfl,C,a0,D,a3,v,f⟩;have c:=f.own (Cb w _ _) Bd;obtain⟨x0,x1,F,f0,f1,f2⟩:=v.cells;rw[Ba K]at F;obtain⟨z,A⟩:=cl2 c;obtain⟨g0,g1⟩:=fr2 c;simp at z A;have G:=f.size;simp at G;have I:=Pk c;have a8:=v.lt;have J:Bl w B:=((((Gr.refl (w.heap.size+1) w).alloc _).alloc _).trans f).below Bd;have a4:=Bc C;have a5:=Bc D;go_wp2_with fail;refine tb (.tuple #[.agg #[.s none 0 0,.s none 0 0],.i 2]) (by simp[results,Bzl,go_sem,z,A,I]) ?_;exact⟨none,0,0,none,0,0,rfl,Ba N _,Ba O _,((J.setCell Fr _).setCell Fr _).alloc Fm _⟩
 | false =>
  have K:=Bc a7;by_cases a6:q.2.pos=s.size
  ·rw[Pf (by simp[a6])];have b3:((q.2.pos:Int) != (s.size:Int))=false:=by simp[a6]
   go_in;go_wp2_with fail;refine(Bbn s (w.heap.size+1) ⟨0,false⟩ _ L V).mono ?_;rw[Ba Q];rintro e B ⟨h,j,l,m,p,t,Y,Z,rfl,C,a0,D,a3,v,f⟩;have c:=f.own (Cb w _ _) Bd;obtain⟨x0,x1,F,f0,f1,f2⟩:=v.cells;rw[Ba K]at F;obtain⟨z,A⟩:=cl2 c;obtain⟨g0,g1⟩:=fr2 c;simp at z A;have G:=f.size;simp at G;have I:=Pk c;have a8:=v.lt;have J:Bl w B:=((((Gr.refl (w.heap.size+1) w).alloc _).alloc _).trans f).below Bd;have a4:=Bc C;have a5:=Bc D;go_wp2_with fail;refine tb (.tuple #[.agg #[.s h j l,.s m p t],.i 0]) (by simp[results,Bzl,go_sem,z,A,I]) ?_;have k1:=((Kp.set (b:=w.heap.size) (i:=0) c (.s h j l)).trans (Kp.set (i:=1) (Bq (i:=0) c (.s h j l)) (.s m p t))).trans (Kp.alloc _ (O1 h j l m p t));refine⟨_,_,_,_,_,_,rfl,⟨Y,Ba a4,?_⟩,⟨Z,Ba a5,?_⟩,((J.setCell Fr _).setCell Fr _).alloc Fm _⟩
   ·exact(a0.mono Fm).kp k1 Ck Ck
   exact(a3.mono Fm).kp k1 Ck Ck Ck Ck Ck
  rw[Sp (.inr a6)];have b3:((q.2.pos:Int) != (s.size:Int))=true:=Fm;go_in;go_wp2_with fail;refine(Bbn s (w.heap.size+1) ⟨0,false⟩ _ L V).mono ?_;rw[Ba Q];rintro e B ⟨h,j,l,m,p,t,Y,Z,rfl,C,a0,D,a3,v,f⟩;have c:=f.own (Cb w _ _) Bd;obtain⟨x0,x1,F,f0,f1,f2⟩:=v.cells;rw[Ba K]at F;obtain⟨z,A⟩:=cl2 c;obtain⟨g0,g1⟩:=fr2 c;simp at z A;have G:=f.size;simp at G;have I:=Pk c;have a8:=v.lt;have J:Bl w B:=((((Gr.refl (w.heap.size+1) w).alloc _).alloc _).trans f).below Bd;have a4:=Bc C;have a5:=Bc D;go_wp2_with fail;refine tb (.tuple #[.agg #[.s none 0 0,.s none 0 0],.i 2]) (by simp[results,Bzl,go_sem,z,A,I]) ?_;exact⟨none,0,0,none,0,0,rfl,Ba N _,Ba O _,((J.setCell Fr _).setCell Fr _).alloc Fm _⟩
namespace Tr
def ov (l:TI)(c:Int):Int:=if c<0 then -1 else if (l.length:Int)<=c then -1 else l.getD c.toNat 0
def upTo (l:TI)(high:Int):Nat->Int->Bool
 | 0,_=>false
 | n+1,pos=>if pos = -1 then false else if pos=high then true else upTo l high n (ov l pos)
def below(l:TI)(low high:Int):Bool:=upTo l high l.length (ov l low)
def hasB (l:TI)(c:Int):Bool:=decide (0<=c)&&decide (c<(l.length:Int))
def plainB(l:TI)(k n:Int):Bool:=if k=1 then n==0 else if k=3 then hasB l n else false
def settledB(l:TI)(k n:Int):Bool:=if k=0\/k=2 then n==0 else plainB l k n
def fitsB(l:TI)(k n k' n':Int):Bool :=
 if k=k'/\n=n' then true else if k'=0 then true else if k' ≠ 3 then false else if k=2 then true else if k=3 then below l n n' else false
def meetTo(l:TI)(b:Int):Nat->Int->Int
 | 0,_=>0
 | n+1,a=>if a=b then a else if below l b a=true then a else meetTo l b n (ov l a)
def meet (l:TI)(a b:Int):Int:=meetTo l b l.length a
def joinT(l:TI)(a b:Int × Int):Int × Int :=
 if fitsB l a.1 a.2 b.1 b.2=true then b
 else if fitsB l b.1 b.2 a.1 a.2=true then a
 else if a.1≠3 then (0,0)
 else if b.1≠3 then (0,0)
 else (3,meet l a.2 b.2)
def allPlainB(l:TI)(fs:TP):Bool:=fs.all fun f=>plainB l f.1 f.2
end Tr
variable {ya:Option Addr}{yn yc:Nat}
def Dl (w:TW)(g:Nat)(l:TI):Prop:=g<w.heap.size/\∀i,i<l.length->w.cell? ⟨g,i,none⟩=some (.int .i64 (l.getD i 0))
def Dl.below(h:Dl w u z)(c:Bl w b):Dl b u z :=
 ⟨Bvm h.1 c.size,fun i e=>by rw[c.cell (p:=.a u i) h.1];exact h.2 i e⟩
def Dl.alloc(h:Dl w u z)(o:Obj):Dl (w.alloc o) u z:=h.below (QN _)
def Bbh(l:TI)(g b:Nat)(c:Int)(w:TW)(f:Dl w g l):Calls prog 225 #[.agg #[.s (.p g) l.length b,.s ya yn yc],.i c] w fun e m=>e=.r (.i (Tr.ov l c))/\Bl w m:=by
 unfold Tr.ov;by_cases h:c<0;·rw[Sp h];go_in;go_wp2;go_ret;exact⟨rfl,QN _⟩
 rw[Pf h];by_cases j:(l.length:Int)<=c;·rw[Sp j];go_in;go_wp2;go_ret;exact⟨rfl,QN _⟩
 rw[Pf j];obtain⟨i,rfl⟩:=Bvk (show 0<=c by omega);have q:i<l.length:=Bd;have t:=(f.alloc (O2 (.p g) l.length b ya yn yc)).2 i q;have v:=f.1;go_in;go_wp2;go_ret;exact⟨rfl,QN _⟩
def Bdf(l:TI)(a:TA)(b:Nat)(c:Int)(w:TW):Calls prog 212 #[.agg #[.s a l.length b,.s ya yn yc],.i c] w fun e f=>e=.r (.bool (Tr.hasB l c))/\Bl w f:=by
 unfold Tr.hasB;by_cases g:0<=c;·go_in;go_wp2;go_ret;exact⟨by simp[g],QN _⟩
 go_in;go_wp2;go_ret;exact⟨Fm,QN _⟩
def Bmd{B:Int}(b:B ≠ -1)(e:B≠c):Tr.upTo z c (n+1) B=Tr.upTo z c n (Tr.ov z B):=by
 simp[Tr.upTo,b,e]
def Bpi{B:Int}(b:B ≠ -1)(e:B=c):Tr.upTo z c (n+1) B=true:=by
 subst e;simp[Tr.upTo,b]
def Bpg{B:Int}(b:B = -1):Tr.upTo z c n B=false:=by
 cases n<;>simp[Tr.upTo,b]
def Aq(l:TI)(g b:Nat)(z c:Int)(w:TW)(hl:l.length<=1000)(A:Dl w g l):Calls prog 171 #[.agg #[.s (.p g) l.length b,.s ya yn yc],.i z,.i c] w fun e I=>e=.r (.bool (Tr.below l z c))/\Bl w I:=by
 unfold Tr.below;generalize J:Tr.upTo l c l.length (Tr.ov l z)=r;have j:=Bc J;have hg:=A.1;have K:=A.alloc (O2 (.p g) l.length b ya yn yc);have L:Bl w (w.alloc (O2 (.p g) l.length b ya yn yc)):=QN _;have N:=Bf w (O2 (.p g) l.length b ya yn yc);go_in;go_wp2_with fail;refine Qm (Bbh l g b z _ K) ?_;intro C D;have O:Bl w C:=L.trans (D.mono Fr);have Q:C.heap[w.heap.size]?=some (O2 (.p g) l.length b ya yn yc):=(D.block _ Fr).trans N;go_wp2
 go_loopw [7,8] (fun p i wr=>∃(k:Nat) (q:Int),k<=l.length/\i=.i k/\p=.i q/\Hid (Tr.upTo l c (l.length-k) q=r)/\Bl w wr /\
   wr.heap[w.heap.size]?=some (O2 (.p g) l.length b ya yn yc))
  (fun _ i _=>l.length-(intOf i).toNat)
 case atStart=>exact⟨0,_,Bd,rfl,rfl,j,O,Q⟩
 case round=>
  obtain⟨k,q,hk,rfl,rfl,j,t,B⟩:=hrel;obtain⟨V,Y⟩:=cl2 B;simp at V Y;by_cases a4:k<l.length
  ·by_cases f:q = -1
   ·have Z:(q != -1)=false:=by simp[f]
    have v:r=false:=by rw[<- Ba j];exact Bpg f
    have h:=Bc v;have F:=Bc f;go_wp2;go_ret;exact⟨by rw[Ba h];rfl,t⟩
   have Z:(q != -1)=true:=by simp[f]
   by_cases m:q=c
   ·have a0:(q==c)=true:=by simp[m]
    have v:r=true:=by rw[<- Ba j,show l.length-k=(l.length-k-1)+1 by omega];exact Bpi f m
    have h:=Bc v;have F:=Bc f;have H2:=Bc m;go_wp2;go_ret;exact⟨by rw[Ba h];rfl,t⟩
   have a0:(q==c)=false:=by simp[m]
   have h:Hid (Tr.upTo l c (l.length-(k+1)) (Tr.ov l q)=r):=by
    unfold Hid;rw[<- Ba j,show l.length-k=(l.length-(k+1))+1 by omega,Bmd f m]
   have F:=Bc f;have H2:=Bc m;have a1:=A.below t;go_wp2_with fail;refine Qm (Bbh l g b q _ a1) ?_;intro w2 G;have a2:Bl w w2:=QB t G;have a3:=(G.block _ (Pk B)).trans B;go_wp2;go_roundw
   case rel=>exact⟨k+1,_,Bd,Lt,rfl,h,a2,a3⟩
   case measure=>simp[intOf];omega
  have v:r=false:=by rw[<- Ba j,show l.length-k=0 by omega];rfl
  have h:=Bc v;go_wp2;go_ret;exact⟨by rw[Ba h];rfl,t⟩
variable {ya:Option Addr}{yn yc:Nat}
def Bx(w:TW)(o b:Obj):Bl w ((w.alloc o).alloc b):=(QN _).alloc Fr _
def Is(w:TW)(o b c:Obj):Bl w (((w.alloc o).alloc b).alloc c):=((QN _).alloc Fr _).alloc Fm _
def Ue(l:TI)(a:TA)(f:Nat)(k n:Int)(w:TW):Calls prog 210 #[.agg #[.s a l.length f,.s ya yn yc],.agg #[.i k,.i n]] w fun e g=>e=.r (.bool (Tr.plainB l k n))/\Bl w g:=by
 unfold Tr.plainB;by_cases b:k=1
 ·rw[Sp b];have h:(k==1)=true:=by simp[b]
  go_in;go_wp2;go_ret;exact⟨rfl,Bx _ _ _⟩
 rw[Pf b];have h:(k==1)=false:=by simp[b]
 by_cases c:k=3
 ·rw[Sp c];have j:(k==3)=true:=by simp[c]
  go_in;go_wp2_with fail;refine Qm (Bdf l a f n _) ?_;intro p m;go_wp2;go_ret;exact⟨rfl,(Bx _ _ _).trans (m.mono Fm)⟩
 rw[Pf c];have j:(k==3)=false:=by simp[c]
 go_in;go_wp2;go_ret;exact⟨rfl,Bx _ _ _⟩
def Bfn(l:TI)(a:TA)(f:Nat)(k n:Int)(w:TW):Calls prog 224 #[.agg #[.s a l.length f,.s ya yn yc],.agg #[.i k,.i n]] w fun e h=>e=.r (.bool (Tr.settledB l k n))/\Bl w h:=by
 unfold Tr.settledB;by_cases b:k=0
 ·rw[Sp (.inl b)];have g:(k==0)=true:=by simp[b]
  go_in;go_wp2;go_ret;exact⟨rfl,Bx _ _ _⟩
 by_cases c:k=2
 ·rw[Sp (.inr c)];have g:(k==0)=false:=by simp[b]
  have j:(k==2)=true:=by simp[c]
  go_in;go_wp2;go_ret;exact⟨rfl,Bx _ _ _⟩
 rw[Pf Bd];have g:(k==0)=false:=by simp[b]
 have j:(k==2)=false:=by simp[c]
 go_in;go_wp2_with fail;refine Qm (Ue l a f k n _) ?_;intro p m;go_wp2;go_ret;exact⟨rfl,(Bx _ _ _).trans (m.mono Fm)⟩
def Km(l:TI)(g z:Nat)(k n b h:Int)(w:TW)(A:l.length<=1000)(B:Dl w g l):Calls prog 118 #[.agg #[.s (.p g) l.length z,.s ya yn yc],.agg #[.i k,.i n],.agg #[.i b,.i h]] w fun e C=>e=.r (.bool (Tr.fitsB l k n b h))/\Bl w C:=by
 unfold Tr.fitsB;by_cases c:k=b/\n=h;·rw[Sp c];obtain⟨rfl,rfl⟩:=c;go_in;go_wp2;go_ret;exact⟨rfl,Is _ _ _ _⟩
 rw[Pf c];by_cases j:b=0
 ·rw[Sp j];subst j;by_cases v:k=0;·subst v;have f:¬n=h:=fun f=>c ⟨rfl,f⟩;go_in;go_wp2;go_ret;exact⟨rfl,Is _ _ _ _⟩
  clear c;go_in;go_wp2;go_ret;exact⟨rfl,Is _ _ _ _⟩
 rw[Pf j];by_cases m:b=3
 ·rw[Pf Bd];subst m;by_cases q:k=2;·rw[Sp q];subst q;go_in;go_wp2;go_ret;exact⟨rfl,Is _ _ _ _⟩
  rw[Pf q];by_cases t:k=3;·rw[Sp t];subst t;have f:¬n=h:=fun f=>c ⟨rfl,f⟩;go_in;go_wp2_with fail;refine Qm (Aq l g z n h _ A (B.below (Is _ _ _ _))) ?_;intro F D;go_wp2;go_ret;exact⟨rfl,(Is _ _ _ _).trans (D.mono Fm)⟩
  rw[Pf t];have G:(k==2)=false:=by simp[q]
  have I:(k==3)=false:=by simp[t]
  go_in;go_wp2;go_ret;exact⟨rfl,Is _ _ _ _⟩
 rw[Sp m];have J:(b==0)=false:=by simp[j]
 have K:(b != 3)=true:=by simp[m]
 by_cases v:k=b;·subst v;have f:¬n=h:=fun f=>c ⟨rfl,f⟩;go_in;go_wp2;go_ret;exact⟨rfl,Is _ _ _ _⟩
 clear c j m;go_in;go_wp2;go_ret;exact⟨rfl,Is _ _ _ _⟩
variable {ya:Option Addr}{yn yc:Nat}
def Tr.within(l:TI)(a b:Int):Bool:=(a==b) || Tr.below l a b
def Bku{a B:Int}(h:Tr.within z B a=true):Tr.meetTo z B (n+1) a=a:=by
 unfold Tr.within at h;by_cases c:a=B;·simp[Tr.meetTo,c]
 have e:Tr.below z B a=true:=by
  have f:(B==a)=false:=Fm;rw[f]at h;simpa using h
 simp[Tr.meetTo,e]
def Bnh{a B:Int}(h:Tr.within z B a=false):Tr.meetTo z B (n+1) a=Tr.meetTo z B n (Tr.ov z a):=by
 unfold Tr.within at h;simp only[Bxo,Byp,ne_eq]at h;have c:¬a=B:=fun e=>h.1 e.symm;simp[Tr.meetTo,c,h.2]
def N1(l:TI)(g c:Nat)(a b:Int)(w:TW)(m:l.length<=1000)(q:Dl w g l):Calls prog 258 #[.agg #[.s (.p g) l.length c,.s ya yn yc],.i a,.i b] w fun e t=>e=.r (.bool (Tr.within l a b))/\Bl w t:=by
 have f:Bl w (w.alloc (O2 (.p g) l.length c ya yn yc)):=QN _;unfold Tr.within;by_cases h:a=b;·subst h;rw[beq_self_eq_true,Bool.true_or];have j:(a==a)=true:=Fr;go_in;go_wp2;go_ret;exact⟨rfl,f⟩
 have j:(a==b)=false:=by simp[h]
 rw[j,Bool.false_or];generalize v:Tr.below l a b=r;have z:=Bc v;go_in;go_wp2_with fail;refine(Aq l g c a b _ m (q.below f)).mono ?_;rw[Ba z];rintro e B ⟨rfl,A⟩;go_wp2;go_ret;exact⟨rfl,f.trans (A.mono Fr)⟩
def Bqf(l:TI)(g c:Nat)(a b:Int)(w:TW)(D:l.length<=1000)(v:Dl w g l):Calls prog 231 #[.agg #[.s (.p g) l.length c,.s ya yn yc],.i a,.i b] w fun e J=>e=.r (.i (Tr.meet l a b))/\Bl w J:=by
 unfold Tr.meet;generalize K:Tr.meetTo l b l.length a=r;have f:=Bc K;have hg:=v.1;have L:Bl w (w.alloc (O2 (.p g) l.length c ya yn yc)):=QN _;have N:=Bf w (O2 (.p g) l.length c ya yn yc);go_in;go_wp2
 go_loopw [1,7] (fun p i wr=>∃(k:Nat) (q:Int),k<=l.length/\i=.i k/\p=.i q/\Hid (Tr.meetTo l b (l.length-k) q=r)/\Bl w wr /\
   wr.heap[w.heap.size]?=some (O2 (.p g) l.length c ya yn yc))
  (fun _ i _=>l.length-(intOf i).toNat)
 case atStart=>exact⟨0,_,Bd,rfl,rfl,f,L,N⟩
 case round=>
  obtain⟨k,q,hk,rfl,rfl,f,h,z⟩:=hrel;obtain⟨O,Q⟩:=cl2 z;simp at O Q;have F:=v.below h;have G:=h.size;by_cases a3:k<l.length
  ·cases m:Tr.within l b q with
   | true =>
    have A:r=q:=by rw[<- Ba f,show l.length-k=(l.length-k-1)+1 by omega];exact Bku m
    have j:=Bc A;have B:=Bc m;go_wp2_with fail;refine(N1 l g c b q _ D F).mono ?_;rw[Ba B];rintro e V ⟨rfl,t⟩;go_wp2;go_ret;exact⟨by rw[Ba j];rfl,h.trans (t.mono G)⟩
   | false =>
    have j:Hid (Tr.meetTo l b (l.length-(k+1)) (Tr.ov l q)=r):=by
     unfold Hid;rw[<- Ba f,show l.length-k=(l.length-(k+1))+1 by omega,Bnh m]
    have B:=Bc m;go_wp2_with fail;refine(N1 l g c b q _ D F).mono ?_;rw[Ba B];rintro e V ⟨rfl,t⟩;have I:=h.trans (t.mono G);have C:=(t.block _ (Pk z)).trans z;have Y:=v.below I;obtain⟨Z,c3⟩:=cl2 C;simp at Z c3;go_wp2_with fail;refine Qb (Bbh l g c q _ Y) I ?_;intro w3 a0 a1;have a2:=(a0.block _ (Pk C)).trans C;go_wp2;go_roundw
    case rel=>exact⟨k+1,_,Bd,Lt,rfl,j,a1,a2⟩
    case measure=>simp[intOf];omega
  have A:r=0:=by rw[<- Ba f,show l.length-k=0 by omega];rfl
  have j:=Bc A;go_wp2;go_ret;exact⟨by rw[Ba j];rfl,h⟩
def Mq(w:TW)(o b c e:Obj):Bl w ((((w.alloc o).alloc b).alloc c).alloc e):=(Is w o b c).alloc Fm _
def J2(w:TW)(b c e f:Obj):((((w.alloc b).alloc c).alloc e).alloc f).heap[w.heap.size]?=some b/\((((w.alloc b).alloc c).alloc e).alloc f).heap[w.heap.size+1]?=some c/\((((w.alloc b).alloc c).alloc e).alloc f).heap[w.heap.size+1+1]?=some e/\((((w.alloc b).alloc c).alloc e).alloc f).heap[w.heap.size+1+1+1]?=some f:=by
 refine⟨?_,?_,?_,?_⟩
 ·rw[Bvu _ _ _ (by first|(simp;done)|(simp;omega)),Bvu _ _ _ (by first|(simp;done)|(simp;omega)),Bvu _ _ _ (by first|(simp;done)|(simp;omega))];exact Bf w b
 ·rw[Bvu _ _ _ (by first|(simp;done)|(simp;omega)),Bvu _ _ _ (by first|(simp;done)|(simp;omega))];simpa using Bf (w.alloc b) c
 ·rw[Bvu _ _ _ (by first|(simp;done)|(simp;omega))];simpa using Bf ((w.alloc b).alloc c) e
 simpa using Bf (((w.alloc b).alloc c).alloc e) f
def stay{o:Obj}(c:Bl w b)(h:w.heap[k]?=some o):b.heap[k]?=some o:=(c.block k (Pk h)).trans h
def Bmg(l:TI)(g G:Nat)(k n O Q:Int)(w:TW)(J:l.length<=1000)(K:Dl w g l):Calls prog 179 #[.agg #[.s (.p g) l.length G,.s ya yn yc],.agg #[.i k,.i n],.agg #[.i O,.i Q]] w fun e w' => e=.r (.agg #[.i (Tr.joinT l (k,n) (O,Q)).1,.i (Tr.joinT l (k,n) (O,Q)).2])/\Bl w w':=by
 unfold Tr.joinT;dsimp only;cases h1:Tr.fitsB l k n O Q with
 | true =>
  rw[Sp rfl];have H1:=Bc h1;go_in;go_wp2_with fail;refine(Km l g G _ _ _ _ _ J (K.below (Mq _ _ _ _ _))).mono ?_;rw[Ba H1];rintro e w1 ⟨rfl,b⟩;have B:=stay b (J2 w _ _ _ _).2.1;have C:=stay b (J2 w _ _ _ _).2.2.1;have j:=stay b (J2 w _ _ _ _).2.2.2;have D:=(Mq w _ _ _ _).trans (b.mono Fm);obtain⟨m,q⟩:=cl2 B;obtain⟨t,v⟩:=cl2 C;obtain⟨c,f⟩:=cl2 j;obtain⟨L,N⟩:=fr2 j;simp at m q t v c f;go_wp2_with fail;refine tb (.agg #[.i O,.i Q]) (by simp[results,Bys,go_sem,c,f]) ?_;exact⟨rfl,(D.setCell Fm _).setCell Fm _⟩
 | false =>
  rw[Pf Fr];have H1:=Bc h1;cases h2:Tr.fitsB l O Q k n with
  | true =>
   rw[Sp rfl];have H2:=Bc h2;go_in;go_wp2_with fail;refine(Km l g G _ _ _ _ _ J (K.below (Mq _ _ _ _ _))).mono ?_;rw[Ba H1];rintro e w1 ⟨rfl,b⟩;have B:=stay b (J2 w _ _ _ _).2.1;have C:=stay b (J2 w _ _ _ _).2.2.1;have j:=stay b (J2 w _ _ _ _).2.2.2;have D:=(Mq w _ _ _ _).trans (b.mono Fm);obtain⟨m,q⟩:=cl2 B;obtain⟨t,v⟩:=cl2 C;obtain⟨c,f⟩:=cl2 j;obtain⟨L,N⟩:=fr2 j;simp at m q t v c f;have I:=stay b (J2 w _ _ _ _).1;obtain⟨z,A⟩:=cl2 I;simp at z A;go_wp2_with fail;refine(Km l g G _ _ _ _ _ J (K.below D)).mono ?_;rw[Ba H2];rintro e w2 ⟨rfl,h⟩;have V:=QB D h;have Y:=stay h I;have Z:=stay h B;have D2:=stay h C;have F:=stay h j;obtain⟨m,q⟩:=cl2 Z;obtain⟨t,v⟩:=cl2 D2;obtain⟨c,f⟩:=cl2 F;obtain⟨L,N⟩:=fr2 F;obtain⟨z,A⟩:=cl2 Y;simp at m q t v c f z A;go_wp2_with fail;refine tb (.agg #[.i k,.i n]) (by simp[results,Bys,go_sem,c,f]) ?_;exact⟨rfl,(V.setCell Fm _).setCell Fm _⟩
  | false =>
   rw[Pf Fr];have H2:=Bc h2;by_cases h3:k=3
   ·rw[Pf Bd];subst h3;by_cases h4:O=3;·rw[Pf Bd];subst h4;go_in;go_wp2_with fail;refine(Km l g G _ _ _ _ _ J (K.below (Mq _ _ _ _ _))).mono ?_;rw[Ba H1];rintro e w1 ⟨rfl,b⟩;have B:=stay b (J2 w _ _ _ _).2.1;have C:=stay b (J2 w _ _ _ _).2.2.1;have j:=stay b (J2 w _ _ _ _).2.2.2;have D:=(Mq w _ _ _ _).trans (b.mono Fm);obtain⟨m,q⟩:=cl2 B;obtain⟨t,v⟩:=cl2 C;obtain⟨c,f⟩:=cl2 j;obtain⟨L,N⟩:=fr2 j;simp at m q t v c f;have I:=stay b (J2 w _ _ _ _).1;obtain⟨z,A⟩:=cl2 I;simp at z A;go_wp2_with fail;refine(Km l g G _ _ _ _ _ J (K.below D)).mono ?_;rw[Ba H2];rintro e w2 ⟨rfl,h⟩;have V:=QB D h;have Y:=stay h I;have Z:=stay h B;have D2:=stay h C;have F:=stay h j;obtain⟨m,q⟩:=cl2 Z;obtain⟨t,v⟩:=cl2 D2;obtain⟨c,f⟩:=cl2 F;obtain⟨L,N⟩:=fr2 F;obtain⟨z,A⟩:=cl2 Y;simp at m q t v c f z A;go_wp2_with fail;refine Qb (Bqf l g G n Q _ J (K.below V)) V ?_;intro w3 a2 a3;have E3:=stay a2 F;obtain⟨c,f⟩:=cl2 E3;obtain⟨L,N⟩:=fr2 E3;simp at c f;go_wp2_with fail;refine tb (.agg #[.i 3,.i (Tr.meet l n Q)]) (by simp[results,Bys,go_sem,c,f]) ?_;exact⟨rfl,(a3.setCell Fm _).setCell Fm _⟩
    rw[Sp h4];have a4:(O != 3)=true:=by simp[h4]
    go_in;go_wp2_with fail;refine(Km l g G _ _ _ _ _ J (K.below (Mq _ _ _ _ _))).mono ?_;rw[Ba H1];rintro e w1 ⟨rfl,b⟩;have B:=stay b (J2 w _ _ _ _).2.1;have C:=stay b (J2 w _ _ _ _).2.2.1;have j:=stay b (J2 w _ _ _ _).2.2.2;have D:=(Mq w _ _ _ _).trans (b.mono Fm);obtain⟨m,q⟩:=cl2 B;obtain⟨t,v⟩:=cl2 C;obtain⟨c,f⟩:=cl2 j;obtain⟨L,N⟩:=fr2 j;simp at m q t v c f;have I:=stay b (J2 w _ _ _ _).1;obtain⟨z,A⟩:=cl2 I;simp at z A;go_wp2_with fail;refine(Km l g G _ _ _ _ _ J (K.below D)).mono ?_;rw[Ba H2];rintro e w2 ⟨rfl,h⟩;have V:=QB D h;have Y:=stay h I;have Z:=stay h B;have D2:=stay h C;have F:=stay h j;obtain⟨m,q⟩:=cl2 Z;obtain⟨t,v⟩:=cl2 D2;obtain⟨c,f⟩:=cl2 F;obtain⟨L,N⟩:=fr2 F;obtain⟨z,A⟩:=cl2 Y;simp at m q t v c f z A;go_wp2_with fail;refine tb (.agg #[.i 0,.i 0]) (by simp[results,Bys,go_sem,c,f]) ?_;exact⟨rfl,(V.setCell Fm _).setCell Fm _⟩
   rw[Sp h3];have a5:(k != 3)=true:=by simp[h3]
   go_in;go_wp2_with fail;refine(Km l g G _ _ _ _ _ J (K.below (Mq _ _ _ _ _))).mono ?_;rw[Ba H1];rintro e w1 ⟨rfl,b⟩;have B:=stay b (J2 w _ _ _ _).2.1;have C:=stay b (J2 w _ _ _ _).2.2.1;have j:=stay b (J2 w _ _ _ _).2.2.2;have D:=(Mq w _ _ _ _).trans (b.mono Fm);obtain⟨m,q⟩:=cl2 B;obtain⟨t,v⟩:=cl2 C;obtain⟨c,f⟩:=cl2 j;obtain⟨L,N⟩:=fr2 j;simp at m q t v c f;have I:=stay b (J2 w _ _ _ _).1;obtain⟨z,A⟩:=cl2 I;simp at z A;go_wp2_with fail;refine(Km l g G _ _ _ _ _ J (K.below D)).mono ?_;rw[Ba H2];rintro e w2 ⟨rfl,h⟩;have V:=QB D h;have Y:=stay h I;have Z:=stay h B;have D2:=stay h C;have F:=stay h j;obtain⟨m,q⟩:=cl2 Z;obtain⟨t,v⟩:=cl2 D2;obtain⟨c,f⟩:=cl2 F;obtain⟨L,N⟩:=fr2 F;obtain⟨z,A⟩:=cl2 Y;simp at m q t v c f z A;go_wp2_with fail;refine tb (.agg #[.i 0,.i 0]) (by simp[results,Bys,go_sem,c,f]) ?_;exact⟨rfl,(V.setCell Fm _).setCell Fm _⟩
def Tr.given:List Int:=[-1,0,1,1,1,1,1]
def Tr.tree(cs:List Rd.Cls):List Int:=Tr.given++cs.map Rd.Cls.above
def Ix(b:List Rd.Cls):(Tr.tree b).length=7+b.length:=by simp[Tr.tree,Tr.given];omega
def Tr.fvals(l:List (Rd.Cls × Value)):List Value:=List.replicate 7 (.slice none 0 0)++l.map Prod.snd
def Tryz.infoTys:(prog.info? 105).map (fun i=>(i.zero,i.size,i.bytes))=some (some (.s none 0 0),1,24):=Le
def Bmn(w:TW)(b g:Nat)(t:TypeId)(c:w.heap.size=g)(e:b<=g)(u:TX):(w.alloc (.cells #[u,u,u,u,u,u,u] t)).ownsRow b t 1 (.s (.p g) 7 7) 7 (List.replicate 7 u) :=
 ⟨rfl,.inr ⟨g,7,#[u,u,u,u,u,u,u],rfl,e,by rw[<- c];exact Bf w _,Bd,Mc,rfl,rfl⟩⟩
def Kp.set2{b i j:Nat}{K:Nat}(h:w.heap[K]?=some (.cells G g (0,0)))(u m:TX):Kp (some g) b w ((w.setCell (.a K i) u).setCell (.a K j) m):=by
 intro k p t c f l;have q:=Kp.set (b:=b) (i:=i) h u k p t c f l;rw[Bvg _ _ _ _ ?_];exact q;intro c;simp only at c;subst c;rw[f]at h;simp at h;exact l (by rw[h.2])
def lenOf:TX->Nat | .slice _ n _=>n | _=>0
def Br2(w:TW)(b g:Nat)(u v:TX)(t:TypeId)(c:w.heap.size=g)(e:b<=g):(w.alloc (.cells #[u,v] t)).ownsRow b t 1 (.s (.p g) 2 2) 2 [u,v] :=
 ⟨rfl,.inr ⟨g,2,#[u,v],rfl,e,by rw[<- c];exact Bf w _,Bd,Mc,rfl,rfl⟩⟩
def Cf{p:Nat}{a:TA}{K c:Nat}{e:TV}(h:w.ownsRow u g p (.s a K c) n e)(v:0<n):∃f,a=some ⟨f,0,none⟩/\f<w.heap.size/\u<=f/\∀j,j<e.length->w.cell? (.a f j)=e[j]?:=by
 obtain⟨z,⟨_,A⟩|⟨f,B,C,i,q,l,D,F,G,t⟩⟩:=h
 ·omega
 simp only[Value.slice.injEq]at i;refine⟨f,i.1,Pk l,q,fun j I=>?_⟩;rw[Bb l,<- t,Bww,Sp Bd];simp
def Ns(l:List (Rd.Cls×Value))(k:Nat)(h:k<l.length):(Kr l)[k*2]?=some (.i l[k].1.above)/\(Kr l)[k*2+1]?=some l[k].2/\k*2+1<(Kr l).length:=by
 induction l generalizing k with
 | nil=>simp at h
 | cons x r ih =>
  cases k with
  | zero=>simp[Kr]
  | succ j =>
   have b:j<r.length:=by simpa using h
   obtain⟨p,q,z⟩:=ih j b;have e:Kr (x::r)=.i x.1.above::x.2::Kr r:=by simp[Kr]
   rw[e,show (j+1)*2=j*2+1+1 by omega];refine⟨by simpa using p,by simpa using q,Fm⟩
def Sn(G V:TA)(n1 c1 Y c2 b:Nat)(l:List (Rd.Cls×Value))(w:TW)(hl:l.length<=6)(hc:Ex w b (.s G n1 c1) l):Calls prog 69 #[.agg #[.s G n1 c1,.s V Y c2]] w fun e w' => ∃g c0 ya yn yc,e=.r (.agg #[.s (.p g) (Tr.tree (l.map Prod.fst)).length c0,.s ya yn yc])/\Dl w' g (Tr.tree (l.map Prod.fst))/\w'.ownsRow w.heap.size 105 1 (.s ya yn yc) (7+l.length) (Tr.fvals l)/\w.heap.size<=g/\Bl w w':=by
 obtain⟨xa,xc,a7⟩:=Bg hc.1;simp only[Value.slice.injEq]at a7;obtain⟨rfl,c6,rfl⟩:=a7;subst c6;obtain⟨i0,I,a8,a9,b0⟩:=Bv4 Tryz.infoInt;obtain⟨j0,t,c7,c8,c9⟩:=Bv4 Tryz.infoTys;have g2:∀w:TW,(Instr.makeSlice 126 (.i 7) (.i 7)).run prog w=.ok (.s (.p w.heap.size) 7 7) (w.alloc (O3 none 0 0 none 0 0 none 0 0 none 0 0 none 0 0 none 0 0 none 0 0)):=fun _=>Le;go_in;go_wp2
 go_loopw [3] (fun v wr=>∃k:Nat,2<=k/\k<=7/\wr.ownsRow (w.heap.size+1+1) 3 1 v k ((Tr.given.take k).map (Value.int .i64))/\lenOf v=k/\Below (w.heap.size+1+1) ((w.alloc (O1 G l.length c1 V Y c2)).alloc (O2 none 0 0 none 0 0)) wr)
  (fun v _=>7-lenOf v)
 case atStart=>
  refine⟨2,Bd,Bd,?_,rfl,(Vm _ _).alloc Fr _⟩;exact Br2 ((w.alloc (O1 G l.length c1 V Y c2)).alloc (O2 none 0 0 none 0 0)) (w.heap.size+1+1) (w.heap.size+1+1) (.i (-1)) (.i 0) 3 Fr (Wf _)
 case round=>
  obtain⟨k,d0,g3,c,d6,h⟩:=hrel;obtain⟨va,vc,rfl⟩:=Bg c;clear d6;have Z:=h.size;simp at Z;by_cases B:k<7
  ·go_wp2_with (at_builtin;refine Bvw _ rfl _ _ 26 rfl (w.heap.size+1+1) 3 i0 _ 1 8 Bxs I a8 a9 b0 rfl Ck _ _ _ rfl (c.alloc _) ⟨wr.heap.size,0,none⟩ 1 1 [.i 1] rfl rfl ?c1 ?c2 ?c3 ?c4 ?c5 ?_)
   case c1=>exact Dv _ _ _ _ rfl
   case c2=>intro u m;simp at m;subst m;rfl
   case c3=>unfold maxLen;omega
   case c4=>omega
   case c5=>simp;omega
   intro v' J C z _;obtain⟨d7,d8,rfl⟩:=Bg C;have a0:J.ownsRow (w.heap.size+1+1) 3 1 (.s d7 (k+1) d8) (k+1) ((Tr.given.take (k+1)).map (Value.int .i64)):=by
    have e:(Tr.given.take (k+1))=Tr.given.take k++[1]:=by
     match k,d0,B with
     | 2,_,_=>rfl
     | 3,_,_=>rfl
     | 4,_,_=>rfl
     | 5,_,_=>rfl
     | 6,_,_=>rfl
    rw[e,Bvx];simpa using C
   have K:=(h.alloc Bd (O4 1)).grown z Fm (fun j t=>(c.lt j t).1);clear z c C h;go_wp2;go_roundw
   case rel=>exact⟨k+1,Bd,Bd,a0,rfl,K⟩
   case measure=>simp[lenOf];omega
  obtain rfl:k=7:=Bd;have hB:Bl w wr:=(Bx w _ _).trans (h.mono Bd);have a4:=(h.block w.heap.size Bd).trans (Cb w _ _);have b1:=(Bvu wr (O3 none 0 0 none 0 0 none 0 0 none 0 0 none 0 0 none 0 0 none 0 0) _ (Pk a4)).trans a4;have A:=Bb b1 0;simp at A;have b2:=h.alloc Bd (O3 none 0 0 none 0 0 none 0 0 none 0 0 none 0 0 none 0 0 none 0 0);have q:(wr.alloc (O3 none 0 0 none 0 0 none 0 0 none 0 0 none 0 0 none 0 0 none 0 0)).ownsRow (w.heap.size+1+1) 105 1 (.s (.p wr.heap.size) 7 7) 7 (List.replicate 7 (.s none 0 0)):=Bmn wr _ _ _ rfl Bd _;have b3:=c.alloc (O3 none 0 0 none 0 0 none 0 0 none 0 0 none 0 0 none 0 0 none 0 0);clear c h;go_wp2
  go_loopw [3,4,18] (fun v u i L=>∃k:Nat,k<=l.length/\i=.i k/\L.ownsRow (w.heap.size+1+1) 3 1 v (7+k) ((Tr.given++((l.map Prod.fst).take k).map Rd.Cls.above).map (Value.int .i64)) /\
    L.ownsRow (w.heap.size+1+1) 105 1 u (7+k) (List.replicate 7 (.s none 0 0)++(l.map Prod.snd).take k) /\
    Below (w.heap.size+1+1) ((w.alloc (O1 G l.length c1 V Y c2)).alloc (O2 none 0 0 none 0 0)) L)
   (fun _ _ i _=>l.length-(intOf i).toNat)
  case atStart=>exact⟨0,Bd,rfl,by simpa[Tr.given] using b3,by simpa using q,b2⟩
  case round=>
   clear b3 b2 hB a4 b1 A Z q;obtain⟨k,hk,rfl,c,q,h⟩:=hrel;obtain⟨va,vc,rfl⟩:=Bg c;obtain⟨za,zc,rfl⟩:=Bg q;have Z:=h.size;simp at Z;have hB:Bl w wr:=(Bx w _ _).trans (h.mono Bd);by_cases B:k<l.length
   ·obtain⟨g,hg,b4,_,D⟩:=Cf (Cx hc.1 (Kp.of_below (e:=none) hB) Ck) Bd;obtain⟨e1,e2,e3⟩:=Ns l k B;have A:=D (k*2) Bd;have N:=D (k*2+1) Bd;rw[e1]at A;rw[e2]at N;obtain⟨O,Q,m⟩:=Bg (hc.2 _ (Bvh B));rw[m]at N;generalize b5:l[k].1.above=F at *;have d9:Hid (List.map Rd.Cls.above [l[k].1]=[F]):=by unfold Hid;simp[b5]
    have HA:Hid ((l.map Prod.fst).take (k+1)=(l.map Prod.fst).take k++[l[k].1]):=by
     unfold Hid;rw[Bvs (by simpa using B)];simp
    have HB:Hid ((l.map Prod.snd).take (k+1)=(l.map Prod.snd).take k++[.s O l[k].1.fields.length Q]):=by
     unfold Hid;rw[Bvs (by simpa using B),<- m];simp
    generalize l[k].1.fields.length=fl at *;clear D e1 e2 e3 b5 m;subst hg;generalize b6:((Tr.given++((l.map Prod.fst).take k).map Rd.Cls.above).map (Value.int .i64))=xs at c;have f2:=Bc b6;clear b6;generalize b7:(List.replicate 7 (Value.slice none 0 0)++(l.map Prod.snd).take k)=ys at q;have f3:=Bc b7;clear b7;go_wp2_with (at_builtin;refine Bvw _ rfl _ _ 26 rfl (w.heap.size+1+1) 3 i0 _ 1 8 Bxs I a8 a9 b0 rfl Ck _ _ _ rfl ((c.alloc _).alloc _) ⟨wr.heap.size+1,0,none⟩ 1 1 [.i F] rfl rfl ?d1 ?d2 ?d3 ?d4 ?d5 ?_)
    case d1=>exact Dv _ _ _ _ Fr
    case d2=>intro u m;simp at m;subst m;rfl
    case d3=>unfold maxLen;omega
    case d4=>omega
    case d5=>simp;omega
    intro v' J C z _;have a0:J.ownsRow (w.heap.size+1+1) 3 1 v' (7+(k+1)) ((Tr.given++((l.map Prod.fst).take (k+1)).map Rd.Cls.above).map (Value.int .i64)):=by
     have e:((Tr.given++((l.map Prod.fst).take (k+1)).map Rd.Cls.above).map (Value.int .i64))=((Tr.given++((l.map Prod.fst).take k).map Rd.Cls.above).map (Value.int .i64))++[.i F]:=by
      rw[Ba HA,Bvx (f:=Rd.Cls.above),Ba d9];simp only[Bvx,Bwe];rfl
     rw[e,Ba f2];exact C
    have K:=((h.alloc Bd _).alloc Fm _).grown z Fm (fun j t=>(c.lt j t).1);have a3:=Cx ((q.alloc (O5 F O fl Q)).alloc (O4 F)) (Kp.of_grown (b:=w.heap.size+1+1) z ((c.alloc _).alloc _)) Ck;have b8:J.heap[wr.heap.size]?=some (O5 F O fl Q):=Kp.of_grown (b:=0) z ((c.alloc _).alloc _) _ _ _ (Bv5 _) ((Bvu _ _ _ Fr).trans (Bf wr _)) Ck;have y1:=Bb b8 1;have ly:=Pk b8;simp at y1;clear z c C h q;have f4:=K.size;simp at f4;go_wp2_with (at_builtin;refine Bvw _ rfl _ _ 126 rfl (w.heap.size+1+1) 105 j0 _ 1 24 underlying126 t c7 c8 c9 rfl Ck _ _ _ rfl (a3.alloc _) ⟨J.heap.size,0,none⟩ 1 1 [.s O fl Q] rfl rfl ?d1 ?d2 ?d3 ?d4 ?d5 ?_)
    case d1=>exact Dv _ _ _ _ Fr
    case d2=>intro u m;simp at m;subst m;rfl
    case d3=>unfold maxLen;omega
    case d4=>omega
    case d5=>simp;omega
    intro f5 L b9 a5 _;have f6:=Cx (a0.alloc (O6 O fl Q)) (Kp.of_grown (b:=w.heap.size+1+1) a5 (a3.alloc _)) Ck;have f7:L.ownsRow (w.heap.size+1+1) 105 1 f5 (7+(k+1)) (List.replicate 7 (.s none 0 0)++(l.map Prod.snd).take (k+1)):=by
     rw[Ba HB,<- Bwe,Ba f3];exact b9
    have f8:=(K.alloc Bd _).grown a5 Fm (fun j t=>(a3.lt j t).1);clear a5 a0 a3 b9 K;go_wp2;go_roundw
    case rel=>exact⟨k+1,Bd,Lt,f6,f7,f8⟩
    case measure=>simp[intOf];omega
   obtain rfl:k=l.length:=Bd;have a6:=(h.block (w.heap.size+1) Bd).trans (Bv w _ _);obtain⟨A,N⟩:=cl2 a6;obtain⟨f0,f1⟩:=fr2 a6;simp at A N;have ht:((l.map Prod.fst).take l.length)=l.map Prod.fst:=Bv0 Fr;rw[ht]at c;have f9:((l.map Prod.snd).take l.length)=l.map Prod.snd:=Bv0 Fr;rw[f9]at q;obtain⟨g,g0,b4,g4,D⟩:=Cf c Bd;subst g0;have HC:=Bc D;clear D;go_wp2_with fail;refine tb (.agg #[.s (.p g) (7+l.length) vc,.s za (7+l.length) zc]) (by simp[results,results69,go_sem,A,N]) ?_;refine⟨g,vc,za,7+l.length,zc,by rw[Ix,Bvr],⟨by simpa using b4,fun i I=>?_⟩,?_,Bd,(hB.setCell Fr _).setCell Fr _⟩
   ·rw[Bvj (w:=wr) ((Bvg _ _ _ g Fm).trans (Bvg wr _ _ g Fm))];have g1:i<((Tr.tree (l.map Prod.fst)).map (Value.int .i64)).length:=by simpa using I
    have h2:=Ba HC i g1;have h3:((Tr.tree (l.map Prod.fst)).map (Value.int .i64))[i]?=some (.i ((Tr.tree (l.map Prod.fst)).getD i 0)):=by
     rw[Bv8,Th,Ws I];rfl
    rw[h2];exact h3
   exact Cx (D8 q Bd) (Kp.set2 a6 _ _) Ck
variable {ya:Option Addr}{yn yc:Nat}
def Gc(l:TP)(k:Nat)(h:k<l.length):(Bu l)[k*2]?=some (.i l[k].1)/\(Bu l)[k*2+1]?=some (.i l[k].2)/\k*2+1<(Bu l).length:=by
 induction l generalizing k with
 | nil=>simp at h
 | cons x r ih =>
  cases k with
  | zero=>simp[Bu]
  | succ j =>
   have b:j<r.length:=by simpa using h
   obtain⟨p,q,z⟩:=ih j b;have e:Bu (x::r)=.i x.1::.i x.2::Bu r:=by simp[Bu]
   rw[e,show (j+1)*2=j*2+1+1 by omega];refine⟨by simpa using p,by simpa using q,Fm⟩
def Rn{x:Int×Int}{r:TP}:Tr.allPlainB z (x::r)=(Tr.plainB z x.1 x.2&&Tr.allPlainB z r):=by simp[Tr.allPlainB]
def Wk(l:TI)(a:TA)(h:Nat)(I:TA)(J K b:Nat)(c:TP)(w:TW)(a5:c.length<=1000)(L:Dp w b (.s I J K) c):Calls prog 158 #[.agg #[.s a l.length h,.s ya yn yc],.s I J K] w fun e w'=>e=.r (.bool (Tr.allPlainB l c))/\Bl w w':=by
 obtain⟨xa,xc,N⟩:=Bg L;simp only[Value.slice.injEq]at N;obtain⟨rfl,a0,rfl⟩:=N;subst a0;generalize f:Tr.allPlainB l c=r;have p:Hid (Tr.allPlainB l (c.drop 0)=r):=by unfold Hid;simpa using f
 clear f;have O:Bl w (w.alloc (O2 a l.length h ya yn yc)):=QN _;have Q:=Bf w (O2 a l.length h ya yn yc);go_in;go_wp2
 go_loopw [9] (fun i wr=>∃k:Nat,k<=c.length/\i=.i k/\Hid (Tr.allPlainB l (c.drop k)=r)/\Bl w wr /\
   wr.heap[w.heap.size]?=some (O2 a l.length h ya yn yc))
  (fun i _=>c.length-(intOf i).toNat)
 case atStart=>exact⟨0,Bd,rfl,p,O,Q⟩
 case round=>
  clear O Q p;obtain⟨k,hk,rfl,p,j,z⟩:=hrel;have V:=j.size;by_cases Y:k<c.length
  ·obtain⟨g,hg,a6,a1,C⟩:=Cf (Cx L (Kp.of_below (e:=none) j) Ck) Bd;obtain⟨Z,e2,e3⟩:=Gc c k Y;have x0:=C (k*2) Bd;have x1:=C (k*2+1) Bd;rw[Z]at x0;rw[e2]at x1;have hd:c.drop k=c[k]::c.drop (k+1):=Wr Y;have f:=Ba p;rw[hd,Rn]at f;generalize a2:c[k].1=A at *;generalize a3:c[k].2=B at *;obtain⟨c0,c1⟩:=cl2 z;have lx:=Pk z;simp at c0 c1;clear C Z e2 e3 a2 a3 hd a1;subst hg;cases m:Tr.plainB l A B with
   | true =>
    have q:Hid (Tr.allPlainB l (c.drop (k+1))=r):=by unfold Hid;rw[<- f,m];simp
    have D:=Bc m;clear m f;go_wp2_with fail;refine(Ue l a h A B _).mono ?_;rw[Ba D];rintro e F ⟨rfl,t⟩;have G:Bl w F:=(j.alloc V _).trans (t.mono Fm);have a4:=stay t ((Bvu wr (O7 A B) _ lx).trans z);clear t j z c0 c1 x0 x1 lx;go_wp2;go_roundw
    case rel=>exact⟨k+1,Bd,Lt,q,G,a4⟩
    case measure=>simp[intOf];omega
   | false =>
    have v:r=false:=by rw[<- f,m];simp
    have q:=Bc v;have D:=Bc m;clear m f v;go_wp2_with fail;refine(Ue l a h A B _).mono ?_;rw[Ba D];rintro e F ⟨rfl,t⟩;have G:Bl w F:=(j.alloc V _).trans (t.mono Fm);go_wp2;go_ret;exact⟨by rw[Ba q];rfl,G⟩
  have v:r=true:=by rw[<- Ba p,Bvi Bd];rfl
  have q:=Bc v;clear v;go_wp2;go_ret;exact⟨by rw[Ba q];rfl,j⟩
def Tr.inCl(l:TI):Nat->List Rd.Cls->Int × Int
 | _,[]=>(0,0)
 | k,c::r=>if 7+(k:Int)<=c.above then (3,7+(k:Int)) else if Tr.allPlainB l c.fields=false then (3,7+(k:Int)) else Tr.inCl l (k+1) r
def Bfo(L Z:TA)(n1 v n2 c2 b:Nat)(l:List (Rd.Cls×Value))(w:TW)(hl:l.length<=6)(b6:∀p∈l,p.1.fields.length<=1000)(hc:Ex w b (.s L n1 v) l):Calls prog 105 #[.agg #[.s L n1 v,.s Z n2 c2]] w fun e w' => e=.r (.agg #[.i (Tr.inCl (Tr.tree (l.map Prod.fst)) 0 (l.map Prod.fst)).1,.i (Tr.inCl (Tr.tree (l.map Prod.fst)) 0 (l.map Prod.fst)).2,.i 0])/\Bl w w':=by
 obtain⟨xa,xc,a7⟩:=Bg hc.1;simp only[Value.slice.injEq]at a7;obtain⟨rfl,b7,rfl⟩:=a7;subst b7;generalize ht:Tr.tree (l.map Prod.fst)=T;generalize c:Tr.inCl T 0 (l.map Prod.fst)=r;have HT:=Bc ht;have I:Hid (Tr.inCl T 0 ((l.map Prod.fst).drop 0)=r):=by unfold Hid;simpa using c
 clear c ht;have a8:=Bx w (O1 L l.length v Z n2 c2) (O8 0 0 0);go_in;go_wp2_with fail;refine(Sn L Z l.length v n2 c2 b l _ hl (hc.kp (Kp.of_below (e:=none) a8) Ck Ck)).mono ?_;rw[Ba HT];rintro e N ⟨g,B,ya,yn,yc,rfl,c6,b8,hg,O⟩;clear b8;have a0:=a8.trans (O.mono Fm);have C:=stay O (Cb w _ _);have h:=stay O (Bv w _ _);have b9:=Pk h;have J:=Bb C 0;simp at J;have c7:=Pk C;have a9:=Bf N (O2 (.p g) T.length B ya yn yc);have b0:Bl w (N.alloc (O2 (.p g) T.length B ya yn yc)):=a0.alloc a0.size _;have b1:=(Bvu N (O2 (.p g) T.length B ya yn yc) _ b9).trans h;clear C h a0 O;go_wp2
 go_loopw [12] (fun i wr=>∃k:Nat,k<=l.length/\i=.i k/\Hid (Tr.inCl T k ((l.map Prod.fst).drop k)=r)/\Bl w wr /\
   wr.heap[N.heap.size]?=some (O2 (.p g) T.length B ya yn yc)/\wr.heap[w.heap.size+1]?=some (O8 0 0 0))
  (fun i _=>l.length-(intOf i).toNat)
 case atStart=>exact⟨0,Bd,rfl,I,b0,a9,b1⟩
 case round=>
  clear b0 a9 b1 I J;obtain⟨k,hk,rfl,I,z,K,h⟩:=hrel;have b2:=z.size;have b3:=Pk K;have a3:=Pk h;by_cases Q:k<l.length
  ·have a4:=hc.kp (Kp.of_below (e:=none) z) Ck Ck;obtain⟨g',c3,c8,c4,a5⟩:=Cf a4.1 Bd;obtain⟨e1,e2,e3⟩:=Ns l k Q;have J:=a5 (k*2) Bd;have x1:=a5 (k*2+1) Bd;rw[e1]at J;rw[e2]at x1;have b4:=b6 _ (Bvh Q);have V:=a4.2 _ (Bvh Q);obtain⟨D,F,hu⟩:=Bg V;rw[hu]at x1 V;have hd:(l.map Prod.fst).drop k=l[k].1::(l.map Prod.fst).drop (k+1):=by
    rw[Wr (by simpa using Q)];simp
   have c:=Ba I;rw[hd,Tr.inCl]at c;generalize c5:l[k].1=f at *;obtain⟨c0,v⟩:=cl2 K;simp at c0 v;clear a5 e1 e2 e3 c5 hd c4 hu a4;subst c3;by_cases h1:7+(k:Int)<=f.above;·rw[Sp h1]at c;have A:=Bc c;clear c;obtain⟨j,m,q⟩:=cl3 h;obtain⟨f0,f1,f2⟩:=fr3 h;simp at j m q;go_wp2;refine tb (.agg #[.i 3,.i (7+(k:Int)),.i 0]) (by simp[results,B0c,go_sem,j,m,q,a3]) ?_;exact⟨by rw[<- Ba A],(((z.setCell Fr _).setCell Fr _).setCell Fr _).alloc Fm _⟩
   rw[Pf h1]at c;cases G:Tr.allPlainB T f.fields with
   | true =>
    rw[G,Pf Fr]at c;have A:=Bc c;have HP:=Bc G;clear c G;go_wp2_with fail;refine(Wk T (.p g) B D f.fields.length F b f.fields _ b4 (V.kp (Kp.alloc (e:=none) _ _) Ck)).mono ?_;rw[Ba HP];rintro e w2 ⟨rfl,t⟩;have a6:Bl w w2:=(z.alloc b2 _).trans (t.mono Fm);have b5:=stay t ((Bvu wr (O5 f.above D f.fields.length F) _ b3).trans K);have Y:=stay t ((Bvu wr (O5 f.above D f.fields.length F) _ a3).trans h);clear t z K h J x1 c0 v;go_wp2;go_roundw
    case rel=>exact⟨k+1,Bd,Lt,A,a6,b5,Y⟩
    case measure=>simp[intOf];omega
   | false =>
    rw[G,Sp rfl]at c;have A:=Bc c;have HP:=Bc G;clear c G;go_wp2_with fail;refine(Wk T (.p g) B D f.fields.length F b f.fields _ b4 (V.kp (Kp.alloc (e:=none) _ _) Ck)).mono ?_;rw[Ba HP];rintro e w2 ⟨rfl,t⟩;have a6:Bl w w2:=(z.alloc b2 _).trans (t.mono Fm);have b5:=stay t ((Bvu wr (O5 f.above D f.fields.length F) _ b3).trans K);have Y:=stay t ((Bvu wr (O5 f.above D f.fields.length F) _ a3).trans h);obtain⟨j,m,q⟩:=cl3 Y;obtain⟨f0,f1,f2⟩:=fr3 Y;simp at j m q;go_wp2;refine tb (.agg #[.i 3,.i (7+(k:Int)),.i 0]) (by simp[results,B0c,go_sem,j,m,q]) ?_;exact⟨by rw[<- Ba A],((a6.setCell Fr _).setCell Fr _).setCell Fr _⟩
  have C:r=(0,0):=by rw[<- Ba I,Bvi Fm];rfl
  have A:=Bc C.symm;clear C;obtain⟨j,m,q⟩:=cl3 h;obtain⟨f0,f1,f2⟩:=fr3 h;simp at j m q;go_wp2;refine tb (.agg #[.i 0,.i 0,.i 0]) (by simp[results,B0c,go_sem,j,m,q]) ?_;exact⟨by rw[<- Ba A],((z.setCell Fr _).setCell Fr _).setCell Fr _⟩
def Sb{α:Type}(P:α->Prop)(f:Rd.St->α×Rd.St)(h:∀t,P (f t).1)(n:Nat)(t:Rd.St):∀x∈(Rd.rep f n t).1,P x:=by
 induction n with
 | zero=>simp[Rd.rep]
 | succ k ih =>
  intro x b;simp only[Rd.rep,Bwt,Bxa]at b;rcases b with b|b
  ·exact ih x b
  rw[b];exact h _
def Xt(s:TB):(Rd.read s).1.classes.length<=6/\∀c∈(Rd.read s).1.classes,c.fields.length<=1000:=by
 unfold Rd.read
 split
 ·simp
 split
 ·simp
 simp only[Rd.fil];refine⟨?_,?_⟩
 ·rw[Rd.rep_len];have:=Rd.cn_bd s 0 6 (Rd.ex s 77 (Rd.ex s 83 ⟨0,false⟩)) Bd;omega
 refine Sb _ _ (fun t=>?_) _ _;simp only[Rd.cls];rw[tys_len];have:=Rd.cn_bd s 0 4 (Rd.nx s t).2 Bd;omega
def W8(w:TW)(b c e:Obj):(((w.alloc b).alloc c).alloc e).heap[w.heap.size]?=some b/\(((w.alloc b).alloc c).alloc e).heap[w.heap.size+1]?=some c/\(((w.alloc b).alloc c).alloc e).heap[w.heap.size+1+1]?=some e:=by
 refine⟨?_,?_,?_⟩
 ·rw[Bvu _ _ _ (by first|(simp;done)|(simp;omega)),Bvu _ _ _ (by first|(simp;done)|(simp;omega))];exact Bf w b
 ·rw[Bvu _ _ _ (by first|(simp;done)|(simp;omega))];simpa using Bf (w.alloc b) c
 simpa using Bf ((w.alloc b).alloc c) e
def Bk{o:Obj}(h:w.heap[k]?=some o)(b:Obj):(w.alloc b).heap[k]?=some o:=(Bvu w b k (Pk h)).trans h
namespace Tr
def Ok (l:TI):Prop:=0<l.length/\l.getD 0 0 = -1/\∀i,0<i->i<l.length->0<=l.getD i 0/\l.getD i 0<(i:Int)
def itr (l:TI):Nat->Int->Int
 | 0,a=>a
 | k+1,a=>itr l k (ov l a)
def itr_add(l:TI)(i j:Nat)(a:Int):itr l (i+j) a=itr l j (itr l i a):=by
 induction i generalizing a with
 | zero=>simp[itr]
 | succ k ih=>rw[show k+1+j=(k+j)+1 by omega];simp[itr,ih]
def Bm5(l:TI)(a:Int)(h:a<0):ov l a = -1:=by simp[ov,h]
def Bjk(l:TI)(k:Nat):itr l k (-1) = -1:=by
 induction k with
 | zero=>rfl
 | succ j ih=>simp[itr,Bm5 l (-1) Bd,ih]
def A8(h:Ok z){a:Int}(c:0<=a):ov z a<a/\-1<=ov z a:=by
 unfold ov;rw[Pf Bd]
 split
 ·omega
 by_cases b:a.toNat=0;·rw[b,h.2.1];omega
 have:=h.2.2 a.toNat Bd Bd;omega
def Aa(h:Ok z){a:Int}(b:0<a)(c:a<(z.length:Int)):0<=ov z a:=by
 unfold ov;rw[Pf Bd,Pf Bd];exact(h.2.2 a.toNat Bd Bd).1
def itr_down(h:Ok z)(m:Nat)(a:Int)(b:0<=itr z m a):itr z m a+(m:Int)<=a:=by
 induction m generalizing a with
 | zero=>simp[itr]
 | succ k ih =>
  simp only[itr]at b ⊢;have e:=ih (ov z a) b;by_cases c:0<=a;·have:=A8 h c;omega
  rw[Bm5 z a Bd,Bjk]at b;omega
def Bph(l:TI)(c:Int)(n:Nat)(b:Int)(p:0<=c):upTo l c n b=true<->∃j,j<n/\itr l j b=c:=by
 induction n generalizing b with
 | zero=>simp[upTo]
 | succ k ih =>
  unfold upTo;by_cases g:b = -1
  ·rw[Sp g]
   constructor
   ·intro h;cases h
   rintro ⟨j,_,m⟩;rw[g,Bjk]at m;omega
  rw[Pf g];by_cases f:b=c;·rw[Sp f];exact⟨fun _=>⟨0,Bd,f⟩,fun _=>rfl⟩
  rw[Pf f,ih]
  constructor
  ·rintro ⟨j,m,e⟩;exact⟨j+1,Bd,e⟩
  rintro ⟨j,m,e⟩;cases j with
  | zero=>exact absurd e f
  | succ i=>exact⟨i,Bd,e⟩
def below_iff(h:Ok z){a B:Int}(c:0<=B)(f:a<(z.length:Int)):below z a B=true<->∃j,itr z (j+1) a=B:=by
 unfold below;rw[Bph z B _ _ c]
 constructor
 ·rintro ⟨j,_,e⟩;exact⟨j,e⟩
 rintro ⟨j,e⟩;have:=itr_down h (j+1) a Bd;exact⟨j,Bd,e⟩
def below_lt(h:Ok z){a b:Int}(c:0<=b)(f:a<(z.length:Int))(g:below z a b=true):b<a:=by
 obtain⟨j,e⟩:=(below_iff h c f).1 g;have:=itr_down h (j+1) a Bd;omega
def Uf(h:Ok z){a B:Int}(m:0<=B)(p:0<=c)(g:a<(z.length:Int))(q:below z a B=true)(s:below z B c=true):below z a c=true:=by
 have t:=below_lt h m g q;obtain⟨i,e⟩:=(below_iff h m g).1 q;obtain⟨j,f⟩:=(below_iff h p Bd).1 s;refine(below_iff h p g).2 ⟨i+1+j,?_⟩;rw[show i+1+j+1=(i+1)+(j+1) by omega,itr_add,e,f]
def Wh(h:Ok z){a:Int}(c:0<a)(b:a<(z.length:Int)):below z a (ov z a)=true :=
 (below_iff h (Aa h c b) b).2 ⟨0,rfl⟩
def Blk(h:Ok z)(n:Nat):∀{a:Int},a.toNat<=n->0<a->a<(z.length:Int)->below z a 0=true:=by
 induction n with
 | zero=>intro a f j _;omega
 | succ k ih =>
  intro a f e b;have c:=Wh h e b;have m:=A8 h (show 0<=a by omega);have g:=Aa h e b;by_cases i:ov z a=0;·rw[i]at c;exact c
  exact Uf h g Bd b c (ih Bd Bd Bd)
def Bcs(h:Ok z){a B:Int}(f:0<=a)(b:0<=B)(g:a<(z.length:Int))(m:below z a B=true):B=ov z a\/below z (ov z a) B=true:=by
 obtain⟨j,e⟩:=(below_iff h b g).1 m;have p:=A8 h f;cases j with
 | zero=>left;exact e.symm
 | succ i=>right;exact(below_iff h b Bd).2 ⟨i,e⟩
def fits_iff(l:TI)(k n e m:Int):fitsB l k n e m=true<->(k=e/\n=m)\/e=0\/(e=3/\k=2)\/(e=3/\k=3/\below l n m=true):=by
 unfold fitsB;by_cases f:k=e/\n=m;·rw[Sp f];simp[f]
 rw[Pf f];by_cases g:e=0;·rw[Sp g];simp[g]
 rw[Pf g];by_cases h:e=3
 ·rw[Pf Bd];by_cases i:k=2;·rw[Sp i];simp[h,i]
  rw[Pf i];by_cases p:k=3
  ·rw[Sp p]
   constructor
   ·intro j;exact .inr (.inr (.inr ⟨h,p,j⟩))
   rintro (⟨a,b⟩|a|⟨a,b⟩|⟨a,b,c⟩)
   ·exact absurd ⟨a,b⟩ f
   ·exact absurd a g
   ·exact absurd b i
   exact c
  rw[Pf p]
  constructor
  ·intro j;cases j
  rintro (⟨a,b⟩|a|⟨a,b⟩|⟨a,b,c⟩)
  ·exact absurd ⟨a,b⟩ f
  ·exact absurd a g
  ·exact absurd b i
  exact absurd b p
 rw[Sp h]
 constructor
 ·intro j;cases j
 rintro (⟨a,b⟩|a|⟨a,b⟩|⟨a,b,c⟩)
 ·exact absurd ⟨a,b⟩ f
 ·exact absurd a g
 ·exact absurd a h
 exact absurd a h
def Arg (l:TI)(k n:Int):Prop:=(k=0/\n=0)\/(k=1/\n=0)\/(k=2/\n=0)\/(k=3/\0<=n/\n<(l.length:Int))\/(k=4/\0<=n/\n<120)
def fits_refl(l:TI)(k n:Int):fitsB l k n k n=true:=(fits_iff l k n k n).2 (.inl ⟨rfl,rfl⟩)
def fits_anti(h:Ok z){k n b:Int}(g:Arg z k n)(i:Arg z b c)(m:fitsB z k n b c=true)(j:fitsB z b c k n=true):k=b/\n=c:=by
 rcases(fits_iff ..).1 m with e | e|⟨e1,e2⟩|⟨e1,e2,e3⟩
 ·exact e
 ·rcases(fits_iff ..).1 j with f | f|⟨f1,f2⟩|⟨f1,f2,f3⟩
  ·exact⟨f.1.symm,f.2.symm⟩
  ·unfold Arg at g i;omega
  ·omega
  omega
 ·rcases(fits_iff ..).1 j with f | f|⟨f1,f2⟩|⟨f1,f2,f3⟩<;>omega
 rcases(fits_iff ..).1 j with f | f|⟨f1,f2⟩|⟨f1,f2,f3⟩
 ·exact⟨f.1.symm,f.2.symm⟩
 ·omega
 ·omega
 have p:=below_lt h (by unfold Arg at i;omega) (by unfold Arg at g;omega) e3;have g2:=below_lt h (by unfold Arg at g;omega) (by unfold Arg at i;omega) f3;omega
def fits_trans(h:Ok z){k n b g i:Int}(p:Arg z k n)(q:Arg z b c)(s:Arg z g i)(j:fitsB z k n b c=true)(m:fitsB z b c g i=true):fitsB z k n g i=true:=by
 rcases(fits_iff ..).1 m with ⟨rfl,rfl⟩ | f|⟨f1,f2⟩|⟨f1,f2,f3⟩
 ·exact j
 ·exact(fits_iff ..).2 (.inr (.inl f))
 ·rcases(fits_iff ..).1 j with ⟨rfl,rfl⟩ | e|⟨e1,e2⟩|⟨e1,e2,e3⟩
  ·exact m
  ·omega
  ·omega
  omega
 rcases(fits_iff ..).1 j with ⟨rfl,rfl⟩ | e|⟨e1,e2⟩|⟨e1,e2,e3⟩
 ·exact m
 ·omega
 ·exact(fits_iff ..).2 (.inr (.inr (.inl ⟨f1,e2⟩)))
 refine(fits_iff ..).2 (.inr (.inr (.inr ⟨f1,e2,?_⟩)));exact Uf h (by unfold Arg at q;omega) (by unfold Arg at s;omega) (by unfold Arg at p;omega) e3 f3
def At (l:TI)(b a:Int):Prop:=a=b\/below l b a=true
def Bif(h:Ok z)(D:0<=c)(B:c<(z.length:Int))(n:Nat):∀{a:Int},0<=a->a<(z.length:Int)->a<(n:Int)->(0<=meetTo z c n a/\meetTo z c n a<(z.length:Int))/\At z a (meetTo z c n a)/\At z c (meetTo z c n a)/\∀f,0<=f->At z a f->At z c f->At z (meetTo z c n a) f:=by
 induction n with
 | zero=>intro a q _ j;omega
 | succ k ih =>
  intro a q i F;unfold meetTo;by_cases t:a=c;·rw[Sp t];exact⟨⟨q,i⟩,.inl rfl,.inl t,fun f _ m _=>m⟩
  rw[Pf t];by_cases j:below z c a=true;·rw[Sp j];exact⟨⟨q,i⟩,.inl rfl,.inr j,fun f _ m _=>m⟩
  rw[Pf j];have v:0<a:=by
   rcases Int.lt_or_le 0 a with g|g
   ·exact g
   exfalso
   have C:a=0:=Bd;subst C;exact j (Blk h c.toNat (Wf _) Bd B)
  have u1:=A8 h q;have u2:=Aa h v i;obtain⟨A,g2,g3,g4⟩:=ih u2 Bd Bd;refine⟨A,?_,g3,?_⟩
  ·rcases g2 with g|g
   ·right;rw[g];exact Wh h v i
   right;exact Uf h u2 A.1 i (Wh h v i) g
  intro f m s p;refine g4 f m ?_ p;rcases s with s|s
  ·subst s;rcases p with p|p
   ·exact absurd p t
   exact absurd p j
  rcases Bcs h q m i s with e|e
  ·exact .inl e
  exact .inr e
def Bng(h:Ok z){a b:Int}(f:0<=a)(e:a<(z.length:Int))(g:0<=b)(i:b<(z.length:Int)):(0<=meet z a b/\meet z a b<(z.length:Int))/\At z a (meet z a b)/\At z b (meet z a b)/\∀c,0<=c->At z a c->At z b c->At z (meet z a b) c :=
 Bif h g i z.length f e e
def fits_ref{a B:Int}:fitsB z 3 a 3 B=true<->At z a B:=by
 rw[fits_iff];unfold At
 constructor
 ·rintro (⟨_,e⟩|e|⟨_,e⟩|⟨_,_,e⟩)
  ·exact .inl e.symm
  ·omega
  ·omega
  exact .inr e
 rintro (e|e)
 ·exact .inl ⟨rfl,e.symm⟩
 exact .inr (.inr (.inr ⟨rfl,rfl,e⟩))
def join_spec(h:Ok z){k n k' n':Int}(s:Arg z k n)(t:Arg z k' n'):Arg z (joinT z (k,n) (k',n')).1 (joinT z (k,n) (k',n')).2/\fitsB z k n (joinT z (k,n) (k',n')).1 (joinT z (k,n) (k',n')).2=true/\fitsB z k' n' (joinT z (k,n) (k',n')).1 (joinT z (k,n) (k',n')).2=true /\ ∀i c,Arg z i c->fitsB z k n i c=true->fitsB z k' n' i c=true->fitsB z (joinT z (k,n) (k',n')).1 (joinT z (k,n) (k',n')).2 i c=true:=by
 unfold joinT;dsimp only;by_cases j:fitsB z k n k' n'=true;·rw[Sp j];exact⟨t,j,fits_refl _ _ _,fun _ _ _ _ g=>g⟩
 rw[Pf j];by_cases q:fitsB z k' n' k n=true;·rw[Sp q];exact⟨s,fits_refl _ _ _,q,fun _ _ _ g _=>g⟩
 rw[Pf q];have v:∀k n,fitsB z k n 0 0=true:=fun k n=>(fits_iff ..).2 (.inr (.inl rfl));by_cases A:k=3
 ·rw[Pf Bd];by_cases C:k'=3
  ·rw[Pf Bd];subst A C;obtain⟨D,g2,g3,g4⟩:=Bng h (a:=n) (b:=n') (by unfold Arg at s;omega) (by unfold Arg at s;omega) (by unfold Arg at t;omega) (by unfold Arg at t;omega);refine⟨.inr (.inr (.inr (.inl ⟨rfl,D.1,D.2⟩))),fits_ref.2 g2,fits_ref.2 g3,?_⟩;intro i c B m p;rcases(fits_iff ..).1 m with ⟨rfl,rfl⟩ | e|⟨e1,e2⟩|⟨rfl,e2,e3⟩
   ·exact absurd p q
   ·subst e;exact(fits_iff ..).2 (.inr (.inl rfl))
   ·omega
   exact fits_ref.2 (g4 c (by unfold Arg at B;omega) (fits_ref.1 m) (fits_ref.1 p))
  rw[Sp C];refine⟨.inl ⟨rfl,rfl⟩,v _ _,v _ _,?_⟩;intro i c B m p;rcases(fits_iff ..).1 p with ⟨rfl,rfl⟩ | e|⟨e1,e2⟩|⟨e1,e2,e3⟩
  ·exact absurd m j
  ·subst e;exact(fits_iff ..).2 (.inr (.inl rfl))
  ·exact absurd ((fits_iff z k' n' k n).2 (.inr (.inr (.inl ⟨A,e2⟩)))) q
  omega
 rw[Sp A];refine⟨.inl ⟨rfl,rfl⟩,v _ _,v _ _,?_⟩;intro i c B m p;rcases(fits_iff ..).1 m with ⟨rfl,rfl⟩ | e|⟨e1,e2⟩|⟨e1,e2,e3⟩
 ·exact absurd p q
 ·subst e;exact(fits_iff ..).2 (.inr (.inl rfl))
 ·rcases(fits_iff ..).1 p with ⟨rfl,rfl⟩ | f|⟨f1,f2⟩|⟨f1,f2,f3⟩
  ·exact absurd m j
  ·omega
  ·exfalso
   unfold Arg at s t;exact j ((fits_iff z k n k' n').2 (.inl ⟨Bd,Bd⟩))
  exact absurd ((fits_iff z k n k' n').2 (.inr (.inr (.inl ⟨f2,e2⟩)))) j
 omega
end Tr
namespace Rf
open Go.Proofs.YtpcgnjolfahacaaGreat (Rd.St Rd.nx Rd.cn Rd.ex Rd.ty Rd.tys Rd.cls Rd.codes Rd.hnd Rd.hnds Rd.mp Rd.mps Rd.mth Rd.fil)
def at' (s:TB)(i:Int):Int:=if i<0 then -1 else if (s.length:Int)<=i then -1 else ((s[i.toNat]?.getD 0).toNat:Int)
def cnt (s:TB)(i least most:Int):Int:=if at' s i<least then -1 else if most<at' s i then -1 else at' s i
def rep {α:Type}(f:Int->α × Int):Nat->Int->List α × Int
 | 0,i=>([],i)
 | k+1,i=>if (rep f k i).2<0 then ([],-1) else if (f (rep f k i).2).2<0 then ([],-1) else ((rep f k i).1++[(f (rep f k i).2).1],(f (rep f k i).2).2)
def ty (s:TB)(i:Int):(Int × Int) × Int:=((at' s i,at' s (i+1)),i+2)
def tys (s:TB)(i:Int):Nat->List (Int × Int)
 | 0=>[]
 | k+1=>tys s i k++[(at' s (i+2*(k:Int)),at' s (i+2*(k:Int)+1))]
def cls (s:TB)(i:Int):Rd.Cls × Int :=
 if cnt s (i+1) 0 4<0 then (⟨0,[]⟩,-1) else (⟨at' s i,tys s (i+2) (cnt s (i+1) 0 4).toNat⟩,i+2+2*cnt s (i+1) 0 4)
def hndAt(s:TB)(i:Int):Rd.Hnd:=⟨at' s i,at' s (i+1),at' s (i+2),at' s (i+3)⟩
def hndTo(s:TB)(i:Int):Nat->List Rd.Hnd
 | 0=>[]
 | k+1=>hndTo s i k++[hndAt s (i+1+4*(k:Int))]
def hnds (s:TB)(i:Int):List Rd.Hnd × Int :=
 if cnt s i 0 4<0 then ([],-1) else if (s.length:Int)<i+1+4*cnt s i 0 4 then ([],-1) else (hndTo s i (cnt s i 0 4).toNat,i+1+4*cnt s i 0 4)
def mp (s:TB)(L H i:Int):Rd.Mp × Int :=
 if cnt s (i+1+2*L) 0 H<0 then (⟨0,[],[]⟩,-1)
 else (⟨at' s i,tys s (i+1) L.toNat,tys s (i+2+2*L) (cnt s (i+1+2*L) 0 H).toNat⟩,i+2+2*L+2*cnt s (i+1+2*L) 0 H)
def mps (s:TB)(i L H:Int):List Rd.Mp × Int :=
 if cnt s i 0 64<0 then ([],-1) else rep (mp s L H) (cnt s i 0 64).toNat (i+1)
def codeTo(s:TB)(i:Int):Nat->List Int
 | 0=>[]
 | k+1=>codeTo s i k++[at' s (i+(k:Int))]
structure Mth where
 m:Rd.Mth
 mapsAt:Int
 fin:Int
def mth (s:TB)(i:Int):Mth × Int :=
 let p:=cnt s (i+2) 0 4
 if p<0 then (⟨⟨0,0,[],(0,0),0,0,[],[],[]⟩,0,0⟩,-1)
 else
  let j:=i+3+2*p
  let l:=cnt s (j+2) 0 8
  let h:=cnt s (j+3) 0 8
  let n:=cnt s (j+4) 1 120
  if l<0 then (⟨⟨0,0,[],(0,0),0,0,[],[],[]⟩,0,0⟩,-1)
  else if h<0 then (⟨⟨0,0,[],(0,0),0,0,[],[],[]⟩,0,0⟩,-1)
  else if n<0 then (⟨⟨0,0,[],(0,0),0,0,[],[],[]⟩,0,0⟩,-1)
  else if (s.length:Int)<j+5+n then (⟨⟨0,0,[],(0,0),0,0,[],[],[]⟩,0,0⟩,-1)
  else
   let hs:=hnds s (j+5+n)
   if hs.2<0 then (⟨⟨0,0,[],(0,0),0,0,[],[],[]⟩,0,0⟩,-1)
   else
    let ms:=mps s hs.2 l h
    (⟨⟨at' s i,at' s (i+1),tys s (i+3) p.toNat,(at' s j,at' s (j+1)),l,h,codeTo s (j+5) n.toNat,hs.1,ms.1⟩,hs.2,ms.2⟩,ms.2)
def fil (s:TB):List Rd.Cls × List Mth × Int :=
 if at' s 0≠83 then ([],[],-1)
 else if at' s 1≠77 then ([],[],-1)
 else if cnt s 2 0 6<0 then ([],[],-1)
 else
  let cs:=rep (cls s) (cnt s 2 0 6).toNat 3
  if cs.2<0 then ([],[],-1)
  else if cnt s cs.2 1 6<0 then ([],[],-1)
  else
   let ms:=rep (mth s) (cnt s cs.2 1 6).toNat (cs.2+1)
   if ms.2<0 then ([],[],-1) else (cs.1,ms.1,ms.2)
def Lnk {α β:Type}(g:β->α)(n:Nat)(r:α × Rd.St)(x:β × Int):Prop :=
 (0<=x.2/\x.2<=(n:Int)/\r.1=g x.1/\r.2=⟨x.2.toNat,false⟩)\/((x.2<0\/(n:Int)<x.2)/\r.2.bad=true)
def Y9(b:0<=c)(e:c<(D.length:Int)):Rd.nx D ⟨c.toNat,false⟩=(at' D c,⟨(c+1).toNat,false⟩):=by
 unfold Rd.nx at';rw[Pf Fr,Pf Ls,Pf Bd,Pf Bd];rw[show (c+1).toNat=c.toNat+1 by omega]
def at_out(b:(D.length:Int)<=c):at' D c = -1:=by
 unfold at'
 split
 ·rfl
 rfl
def Xz(b:(D.length:Int)<=c):Rd.nx D ⟨c.toNat,false⟩=(0,⟨c.toNat,true⟩):=by
 unfold Rd.nx;rw[Pf Fr,Sp Ls]
def at_bd(s:TB)(i:Int):-1<=at' s i/\at' s i<=255:=by
 unfold at'
 split
 ·omega
 split
 ·omega
 have:=(s[i.toNat]?.getD 0).toNat_lt;omega
def cnt_bd(s:TB)(i a b:Int)(c:-1<=b):-1<=cnt s i a b/\cnt s i a b<=b:=by
 have:=at_bd s i;unfold cnt
 split
 ·omega
 split<;>omega
def Me{i a b:Int}(h:(D.length:Int)<=i)(c:0<=a):cnt D i a b = -1:=by
 unfold cnt;rw[at_out h,Sp Bd]
def Gl(s:TB)(p:Nat):(Rd.nx s ⟨p,true⟩).2.bad=true:=by simp[Rd.nx]
def Di(t:Rd.St)(h:t.bad=true):∃p,t=⟨p,true⟩:=⟨t.pos,by cases t;simp_all⟩
def Rc{s:TB}{i:Int}(b:0<=i)(c:i<=(s.length:Int)):Lnk id s.length (Rd.nx s ⟨i.toNat,false⟩) (at' s i,i+1):=by
 by_cases h:i<(s.length:Int)
 ·left
  rw[Y9 b h];exact⟨Ls,Ls,rfl,rfl⟩
 right
 rw[Xz Bd];exact⟨.inr Ls,rfl⟩
def Rh{s:TB}{i a b:Int}(f:0<=i)(l:i<=(s.length:Int))(g:0<=a):(0<=cnt s i a b/\i<(s.length:Int)/\Rd.cn s a b ⟨i.toNat,false⟩=(cnt s i a b,⟨(i+1).toNat,false⟩))\/(cnt s i a b<0/\(Rd.cn s a b ⟨i.toNat,false⟩).2.bad=true):=by
 by_cases h:i<(s.length:Int)
 ·have m:=at_bd s i;have j:0<=at' s i:=by unfold at';rw[Pf Bd,Pf Bd];omega
  unfold Rd.cn cnt;rw[Y9 f h];by_cases c:at' s i<a;·right;rw[Sp c,Sp c];exact⟨Bd,rfl⟩
  rw[Pf c,Pf c];by_cases e:b<at' s i;·right;rw[Sp e,Sp e];exact⟨Bd,rfl⟩
  left;rw[Pf e,Pf e];exact⟨j,h,rfl⟩
 right
 refine⟨by rw[Me Bd g];omega,?_⟩;unfold Rd.cn;rw[Xz Bd]
 split
 ·rfl
 split<;>rfl
def J4(s:TB)(a b:Int)(p:Nat):(Rd.cn s a b ⟨p,true⟩).2.bad=true:=by
 unfold Rd.cn
 split
 ·rfl
 split
 ·rfl
 exact Gl s p
def Vk{α β:Type}{g:β->α}{f:Rd.St->α×Rd.St}{F:Int->β×Int}(c:∀i:Int,0<=i->i<=(n:Int)->Lnk g n (f ⟨i.toNat,false⟩) (F i)) (h:∀p,(f ⟨p,true⟩).2.bad=true)(j:∀i:Int,(n:Int)<i->(F i).2<0\/(n:Int)<(F i).2)(k:Nat)(i:Int)(l:0<=i)(m:i<=(n:Int)):Lnk (List.map g) n (Rd.rep f k ⟨i.toNat,false⟩) (rep F k i):=by
 induction k with
 | zero=>left;exact⟨l,m,rfl,rfl⟩
 | succ k ih =>
  unfold Rd.rep rep;rcases ih with ⟨q,s,t,v⟩|⟨b,z⟩
  ·rw[Pf Bd,t,v];rcases c _ q s with ⟨A,B,C,D⟩|⟨G,I⟩
   ·left
    rw[Pf Bd];exact⟨A,B,by simp[C],D⟩
   right
   refine⟨?_,I⟩
   split
   ·left;simp
   exact G
  right
  refine⟨?_,?_⟩
  ·split
   ·left;simp
   split
   ·left;simp
   rcases b with b|b
   ·omega
   rcases j _ b with e|e
   ·omega
   right;exact e
  obtain⟨p,J⟩:=Di _ z;rw[J];exact h p
def Oo{α:Type}{f:Rd.St->α×Rd.St}(b:∀p,(f ⟨p,true⟩).2.bad=true)(k:Nat)(p:Nat):(Rd.rep f k ⟨p,true⟩).2.bad=true:=by
 induction k with
 | zero=>rfl
 | succ k ih =>
  unfold Rd.rep;obtain⟨q,c⟩:=Di _ ih;simp only;rw[c];exact b q
end Rf
namespace Rf
def Bbw(s:TB)(p:Nat):(Rd.ty s ⟨p,true⟩).2.bad=true:=by
 unfold Rd.ty;obtain⟨q,b⟩:=Di _ (Gl s p);simp only;rw[b];exact Gl s q
def Bme{s:TB}{i:Int}(h:0<=i)(j:i<=(s.length:Int)):Lnk id s.length (Rd.ty s ⟨i.toNat,false⟩) (ty s i):=by
 unfold Rd.ty ty;rcases Rc h j with ⟨_,b,c,e⟩|⟨l,m⟩
 ·simp only at b c e;rw[c,e];rcases Rc (s:=s) (i:=i+1) Bd b with ⟨_,p,f,g⟩|⟨t,v⟩
  ·simp only at p f g
   left
   exact⟨Ls,Ls,by simp only[f,id_eq],by simp only[g];rw[show i+1+1=i+2 by omega]⟩
  simp only at t
  right
  exact⟨.inr Ls,v⟩
 simp only at l;obtain⟨q,z⟩:=Di _ m
 right
 refine⟨.inr Ls,?_⟩;simp only;rw[z];exact Gl s q
def rep_step{α:Type}{f:Int->α×Int}{B b:Int}{l:List α}{x:α}(h:rep f k c=(l,B))(g:0<=B)(e:f B=(x,b))(m:0<=b):rep f (k+1) c=(l++[x],b):=by
 unfold rep;rw[h];show (if B<0 then ([],-1) else if (f B).2<0 then ([],-1) else (l++[(f B).1],(f B).2))=_
 rw[Pf Bd,e];exact Pf Ls
def Br0(s:TB)(k:Nat)(i:Int)(b:0<=i):rep (ty s) k i=(tys s i k,i+2*(k:Int)):=by
 induction k with
 | zero=>simp[rep,tys]
 | succ k ih =>
  rw[rep_step ih Bd rfl Bd];refine Bxd rfl ?_;simp only;omega
def Nc(s:TB)(k p:Nat):(Rd.tys s k ⟨p,true⟩).2.bad=true:=Oo (Bbw s) k p
def Ax{s:TB}{i:Int}(k:Nat)(c:0<=i)(e:i<=(s.length:Int)):Lnk id s.length (Rd.tys s k ⟨i.toNat,false⟩) (tys s i k,i+2*(k:Int)):=by
 have h:=Vk (g:=id) (fun i a b=>Bme (s:=s) a b) (Bbw s) (fun i f=>.inr (by simp only[ty];omega)) k i c e;rw[Br0 s k i c]at h;unfold Rd.tys;simpa[Lnk] using h
def Bjr(s:TB)(p:Nat):(Rd.cls s ⟨p,true⟩).2.bad=true:=by
 unfold Rd.cls;obtain⟨q,b⟩:=Di _ (Gl s p);obtain⟨c,e⟩:=Di _ (J4 s 0 4 q);simp only;rw[b,e];exact Nc s _ c
def Bs4(s:TB)(i:Int)(h:(s.length:Int)<i):(cls s i).2<0:=by
 unfold cls;rw[Me Bd Bd,Sp Bd]
 decide
def Bs5{s:TB}{i:Int}(l:0<=i)(m:i<=(s.length:Int)):Lnk id s.length (Rd.cls s ⟨i.toNat,false⟩) (cls s i):=by
 unfold Rd.cls cls;rcases Rc l m with ⟨_,e,f,g⟩|⟨p,t⟩
 ·simp only at e f g;simp only;rw[f,g];rcases Rh (s:=s) (i:=i+1) (a:=0) (b:=4) Bd e Bd with ⟨I,J,v⟩|⟨z,A⟩
  ·rw[Pf Bd,v];simp only;rcases Ax (s:=s) (i:=i+1+1) (cnt s (i+1) 0 4).toNat Bd Bd with ⟨_,B,h,j⟩|⟨C,D⟩
   ·simp only at B h j
    left
    rw[show i+1+1=i+2 by omega]at *;refine⟨Ls,Ls,?_,?_⟩
    ·simp only[h,id_eq]
    rw[j];simp only;congr 2;omega
   simp only at C
   right
   exact⟨.inr Ls,D⟩
  rw[Sp z]
  right
  obtain⟨q,c⟩:=Di _ A;simp only;rw[c];exact⟨.inl Ck,Nc s _ q⟩
 simp only at p;rw[Me Bd Bd,Sp Bd]
 right
 obtain⟨q,c⟩:=Di _ t;obtain⟨F,G⟩:=Di _ (J4 s 0 4 q);simp only;rw[c,G];exact⟨.inl Ck,Nc s _ F⟩
def Bq3(s:TB)(k:Nat)(i:Int)(b:0<=i):rep (fun i=>(at' s i,i+1)) k i=(codeTo s i k,i+(k:Int)):=by
 induction k with
 | zero=>simp[rep,codeTo]
 | succ k ih =>
  rw[rep_step ih Bd rfl Bd];refine Bxd rfl ?_;simp only;omega
def Bq4{s:TB}{i:Int}(k:Nat)(c:0<=i)(e:i<=(s.length:Int)):Lnk id s.length (Rd.rep (Rd.nx s) k ⟨i.toNat,false⟩) (codeTo s i k,i+(k:Int)):=by
 have h:=Vk (g:=id) (F:=fun i=>(at' s i,i+1)) (fun i a b=>Rc (s:=s) a b) (Gl s) (fun i f=>.inr Ls) k i c e;rw[Bq3 s k i c]at h;simpa[Lnk] using h
def Bde(s:TB)(p:Nat):(Rd.hnd s ⟨p,true⟩).2.bad=true:=by
 unfold Rd.hnd;obtain⟨q,b⟩:=Di _ (Gl s p);obtain⟨c,e⟩:=Di _ (Gl s q);obtain⟨f,g⟩:=Di _ (Gl s c);simp only;rw[b,e,g];exact Gl s f
def Bsw{s:TB}{i:Int}(f:0<=i)(t:i<=(s.length:Int)):Lnk id s.length (Rd.hnd s ⟨i.toNat,false⟩) (hndAt s i,i+4):=by
 by_cases h:i+4<=(s.length:Int)
 ·left
  unfold Rd.hnd hndAt;simp only;rw[Y9 f Bd,Y9 Bd Bd,Y9 Bd Bd,Y9 Bd Bd];refine⟨Bd,h,?_,?_⟩
  ·simp only[id_eq,show i+1+1=i+2 by omega,show i+2+1=i+3 by omega]
  simp only;congr 2;omega
 right
 refine⟨.inr Ls,?_⟩;unfold Rd.hnd;simp only;rcases Rc f t with ⟨_,g,_,j⟩|⟨_,v⟩
 ·simp only at g j;rw[j];rcases Rc (s:=s) (i:=i+1) Bd g with ⟨_,l,_,m⟩|⟨_,z⟩
  ·simp only at l m;rw[m];rcases Rc (s:=s) (i:=i+1+1) Bd l with ⟨_,A,_,p⟩|⟨_,B⟩
   ·simp only at A p;rw[p,Xz Bd]
   obtain⟨q,b⟩:=Di _ B;rw[b];exact Gl s q
  obtain⟨q,b⟩:=Di _ z;obtain⟨c,e⟩:=Di _ (Gl s q);rw[b,e];exact Gl s c
 obtain⟨q,b⟩:=Di _ v;obtain⟨c,e⟩:=Di _ (Gl s q);obtain⟨C,D⟩:=Di _ (Gl s c);rw[b,e,D];exact Gl s C
def Bsv(s:TB)(k:Nat)(i:Int)(b:0<=i):rep (fun i=>(hndAt s i,i+4)) k (i+1)=(hndTo s i k,i+1+4*(k:Int)):=by
 induction k with
 | zero=>simp[rep,hndTo]
 | succ k ih =>
  rw[rep_step ih Bd rfl Bd];refine Bxd rfl ?_;simp only;omega
def Bg5(s:TB)(p:Nat):(Rd.hnds s ⟨p,true⟩).2.bad=true:=by
 unfold Rd.hnds;obtain⟨q,b⟩:=Di _ (J4 s 0 4 p);simp only;rw[b];exact Oo (Bde s) _ q
def Bqs{s:TB}{i:Int}(c:0<=i)(j:i<=(s.length:Int)):Lnk id s.length (Rd.hnds s ⟨i.toNat,false⟩) (hnds s i):=by
 unfold Rd.hnds hnds;rcases Rh (s:=s) (i:=i) (a:=0) (b:=4) c j Bd with ⟨B,C,l⟩|⟨m,p⟩
 ·rw[Pf Bd,l];simp only;have h:=Vk (g:=id) (F:=fun i=>(hndAt s i,i+4)) (fun i a b=>Bsw (s:=s) a b) (Bde s) (fun i D=>.inr Ls) (cnt s i 0 4).toNat (i+1) Bd Bd;rw[Bsv s _ i c]at h;rcases h with ⟨_,t,e,f⟩|⟨v,z⟩
  ·simp only at t e f
   left
   rw[Pf Bd];refine⟨Ls,Ls,?_,?_⟩
   ·simp only[e,id_eq,List.map_id_fun]
   rw[f];simp only;congr 2;omega
  simp only at v
  right
  rw[Sp Bd];exact⟨.inl Ck,z⟩
 rw[Sp m]
 right
 obtain⟨q,A⟩:=Di _ p;simp only;rw[A];exact⟨.inl Ck,Oo (Bde s) _ q⟩
def Bgr(s:TB)(L H:Int)(p:Nat):(Rd.mp s L H ⟨p,true⟩).2.bad=true:=by
 unfold Rd.mp;obtain⟨q,b⟩:=Di _ (Gl s p);obtain⟨c,e⟩:=Di _ (Nc s L.toNat q);obtain⟨f,g⟩:=Di _ (J4 s 0 H c);simp only;rw[b,e,g];exact Nc s _ f
def Bud{s:TB}{H i:Int}(Z:0<=c)(z:0<=i)(A:i<=(s.length:Int)):Lnk id s.length (Rd.mp s c H ⟨i.toNat,false⟩) (mp s c H i):=by
 unfold Rd.mp mp;rcases Rc z A with ⟨_,j,l,m⟩|⟨B,C⟩
 ·simp only at j l m;simp only;rw[l,m];rcases Ax (s:=s) (i:=i+1) c.toNat Bd j with ⟨_,f,p,t⟩|⟨D,F⟩
  ·simp only at f p t;rw[p,t];have G:i+1+2*((c.toNat:Nat):Int)=i+1+2*c:=Bd;rw[G]at f ⊢;rcases Rh (s:=s) (i:=i+1+2*c) (a:=0) (b:=H) Bd f Bd with ⟨c0,c1,I⟩|⟨J,K⟩
   ·rw[Pf Bd,I];simp only;rcases Ax (s:=s) (i:=i+1+2*c+1) (cnt s (i+1+2*c) 0 H).toNat Bd Bd with ⟨_,v,g2,g3⟩|⟨N,O⟩
    ·simp only at v g2 g3
     left
     have Q:i+1+2*c+1=i+2+2*c:=Bd;rw[Q]at v g2 g3 ⊢;refine⟨Ls,Ls,?_,?_⟩
     ·simp only[g2,id_eq]
     rw[g3];simp only;congr 2;omega
    simp only at N
    right
    exact⟨.inr Ls,O⟩
   rw[Sp J]
   right
   obtain⟨q,e⟩:=Di _ K;simp only;rw[e];exact⟨.inl Ck,Nc s _ q⟩
  simp only at D;rw[Me Bd Bd,Sp Bd]
  right
  obtain⟨q,e⟩:=Di _ F;obtain⟨g,h⟩:=Di _ (J4 s 0 H q);simp only;rw[e,h];exact⟨.inl Ck,Nc s _ g⟩
 simp only at B;rw[Me Bd Bd,Sp Bd]
 right
 obtain⟨q,e⟩:=Di _ C;obtain⟨V,Y⟩:=Di _ (Nc s c.toNat q);obtain⟨g,h⟩:=Di _ (J4 s 0 H V);simp only;rw[e,Y,h];exact⟨.inl Ck,Nc s _ g⟩
def Bjf(s:TB)(L H:Int)(p:Nat):(Rd.mps s L H ⟨p,true⟩).2.bad=true:=by
 unfold Rd.mps;obtain⟨q,b⟩:=Di _ (J4 s 0 64 p);simp only;rw[b];exact Oo (Bgr s L H) _ q
def Bsf{s:TB}{L H i:Int}(c:0<=L)(e:0<=i)(f:i<=(s.length:Int)):Lnk id s.length (Rd.mps s L H ⟨i.toNat,false⟩) (mps s i L H):=by
 unfold Rd.mps mps;rcases Rh (s:=s) (i:=i) (a:=0) (b:=64) e f Bd with ⟨t,v,j⟩|⟨l,m⟩
 ·rw[Pf Bd,j];simp only;have h:=Vk (g:=id) (fun i a b=>Bud (s:=s) (H:=H) c a b) (Bgr s L H) (fun i z=>.inl (by unfold mp;rw[Me Bd Bd,Sp Bd];decide)) (cnt s i 0 64).toNat (i+1) Bd Bd;simpa[Lnk] using h
 rw[Sp l]
 right
 obtain⟨q,p⟩:=Di _ m;simp only;rw[p];exact⟨.inl Ck,Oo (Bgr s L H) _ q⟩
def Bje(s:TB)(p:Nat):(Rd.mth s ⟨p,true⟩).2.bad=true:=by
 unfold Rd.mth;obtain⟨e,f⟩:=Di _ (Gl s p);obtain⟨b,g⟩:=Di _ (Gl s e);obtain⟨h,i⟩:=Di _ (J4 s 0 4 b);obtain⟨j,l⟩:=Di _ (Nc s (Rd.cn s 0 4 ⟨b,true⟩).1.toNat h);obtain⟨m,t⟩:=Di _ (Bbw s j);obtain⟨v,z⟩:=Di _ (J4 s 0 8 m);obtain⟨c,A⟩:=Di _ (J4 s 0 8 v);obtain⟨B,C⟩:=Di _ (show (Rd.codes s ⟨c,true⟩).2.bad=true by
  unfold Rd.codes;obtain⟨q,D⟩:=Di _ (J4 s 1 120 c);simp only;rw[D];exact Oo (Gl s) _ q)
 obtain⟨F,G⟩:=Di _ (Bg5 s B);simp only;rw[f,g,i,l,t,z,A,C,G];exact Bjf s _ _ F
def Bol(s:TB)(p:Nat):(Rd.codes s ⟨p,true⟩).2.bad=true:=by
 unfold Rd.codes;obtain⟨q,b⟩:=Di _ (J4 s 1 120 p);simp only;rw[b];exact Oo (Gl s) _ q
def g10 (s:TB)(l h:Int)(t:Rd.St):Rd.St:=(Rd.mps s l h t).2
def g9 (s:TB)(l h:Int)(t:Rd.St):Rd.St:=g10 s l h (Rd.hnds s t).2
def g8 (s:TB)(l h:Int)(t:Rd.St):Rd.St:=g9 s l h (Rd.codes s t).2
def g7 (s:TB)(l:Int)(t:Rd.St):Rd.St:=g8 s l (Rd.cn s 0 8 t).1 (Rd.cn s 0 8 t).2
def g6 (s:TB)(t:Rd.St):Rd.St:=g7 s (Rd.cn s 0 8 t).1 (Rd.cn s 0 8 t).2
def g5 (s:TB)(t:Rd.St):Rd.St:=g6 s (Rd.ty s t).2
def g4 (s:TB)(p:Int)(t:Rd.St):Rd.St:=g5 s (Rd.tys s p.toNat t).2
def g3 (s:TB)(t:Rd.St):Rd.St:=g4 s (Rd.cn s 0 4 t).1 (Rd.cn s 0 4 t).2
def g2 (s:TB)(t:Rd.St):Rd.St:=g3 s (Rd.nx s t).2
def Bk9(s:TB)(t:Rd.St):(Rd.mth s t).2=g2 s (Rd.nx s t).2:=by
 simp only[Rd.mth,g2,g3,g4,g5,g6,g7,g8,g9,g10]
def Bjn{B:Int}{t:Rd.St}(b:t.bad=true):(g10 D c B t).bad=true:=by
 obtain⟨p,rfl⟩:=Di t b;exact Bjf D c B p
def Bhb{B:Int}{t:Rd.St}(b:t.bad=true):(g9 D c B t).bad=true:=by
 obtain⟨p,rfl⟩:=Di t b;exact Bjn (Bg5 D p)
def Bn6{B:Int}{t:Rd.St}(b:t.bad=true):(g8 D c B t).bad=true:=by
 obtain⟨p,rfl⟩:=Di t b;exact Bhb (Bol D p)
def Bn7{t:Rd.St}(b:t.bad=true):(g7 D c t).bad=true:=by
 obtain⟨p,rfl⟩:=Di t b;exact Bn6 (J4 D 0 8 p)
def Bn8{t:Rd.St}(b:t.bad=true):(g6 D t).bad=true:=by
 obtain⟨p,rfl⟩:=Di t b;exact Bn7 (J4 D 0 8 p)
def Bn9{t:Rd.St}(b:t.bad=true):(g5 D t).bad=true:=by
 obtain⟨p,rfl⟩:=Di t b;exact Bn8 (Bbw D p)
def Boa{t:Rd.St}(b:t.bad=true):(g4 D c t).bad=true:=by
 obtain⟨q,rfl⟩:=Di t b;exact Bn9 (Nc D _ q)
def Bob{t:Rd.St}(b:t.bad=true):(g3 D t).bad=true:=by
 obtain⟨p,rfl⟩:=Di t b;exact Boa (J4 D 0 4 p)
def Bul{t:Rd.St}(b:t.bad=true):(g2 D t).bad=true:=by
 obtain⟨p,rfl⟩:=Di t b;exact Bob (Gl D p)
def hnds_le(s:TB)(i:Int):(hnds s i).2<=(s.length:Int):=by
 unfold hnds
 split
 ·simp only;omega
 split
 ·simp only;omega
 simp only;omega
def Bse{s:TB}{i:Int}(h0:0<=i)(h1:i<=(s.length:Int)):Lnk Mth.m s.length (Rd.mth s ⟨i.toNat,false⟩) (mth s i):=by
 -- where the document's reader has nothing, it is enough that the program's is bad
 have c:∀x:Mth×Int,x.2<0->(Rd.mth s ⟨i.toNat,false⟩).2.bad=true->Lnk Mth.m s.length (Rd.mth s ⟨i.toNat,false⟩) x:=fun x a b=>.inr ⟨.inl a,b⟩;rcases Rc h0 h1 with ⟨_,a1,a2,g⟩|⟨b0,h⟩
 rotate_left
 ·simp only at b0;refine c _ ?_ (Bul h);unfold mth;simp only;rw[Me Bd Bd,Sp Bd]
  decide
 simp only at a1 a2 g;rcases Rc (s:=s) (i:=i+1) Bd a1 with ⟨_,h,b2,l⟩|⟨c0,c1⟩
 rotate_left
 ·simp only at c0;refine c _ ?_ ?_
  ·unfold mth;simp only;rw[Me Bd Bd,Sp Bd]
   decide
  rw[Bk9,g];exact Bob c1
 simp only at h b2 l;rw[show i+1+1=i+2 by omega]at h l;rcases Rh (s:=s) (i:=i+2) (a:=0) (b:=4) Bd h Bd with ⟨c0,c1,F⟩|⟨G,e⟩
 rotate_left
 ·refine c _ ?_ ?_
  ·unfold mth;simp only;rw[Sp G]
   decide
  rw[Bk9,g];show (g3 s (Rd.nx s _).2).bad=true;rw[l];exact Boa e
 rw[show i+2+1=i+3 by omega]at F;have e2:(Rd.mth s ⟨i.toNat,false⟩).2=g4 s (cnt s (i+2) 0 4) ⟨(i+3).toNat,false⟩:=by
  rw[Bk9,g];show g3 s (Rd.nx s _).2=_;rw[l];show g4 s (Rd.cn s 0 4 _).1 (Rd.cn s 0 4 _).2=_;rw[F]
 have cb:=cnt_bd s (i+2) 0 4 Bd
 -- the parameters
 rcases Ax (s:=s) (i:=i+3) (cnt s (i+2) 0 4).toNat Bd Bd with ⟨_,e,d2,t⟩|⟨G,e⟩
 rotate_left
 ·simp only at G;refine c _ ?_ ?_
  ·unfold mth;simp only;rw[Pf Bd,Me (i:=i+3+2*cnt s (i+2) 0 4+2) Bd Bd,Sp Bd]
   decide
  rw[e2];exact Bn9 e
 simp only at e d2 t;rw[show i+3+2*(((cnt s (i+2) 0 4).toNat:Nat):Int)=i+3+2*cnt s (i+2) 0 4 by omega]at e t;have e3:(Rd.mth s ⟨i.toNat,false⟩).2=g5 s ⟨(i+3+2*cnt s (i+2) 0 4).toNat,false⟩:=by
  rw[e2];show g5 s (Rd.tys s _ _).2=_;rw[t]
 generalize f:i+3+2*cnt s (i+2) 0 4=j at *;have j0:0<=j:=Bd;rcases Bme (s:=s) (i:=j) j0 e with ⟨_,v,f2,I⟩|⟨f0,v⟩
 rotate_left
 ·simp only[ty]at f0;refine c _ ?_ ?_
  ·unfold mth;simp only;rw[Pf Bd,f,Me (i:=j+2) Bd Bd,Sp Bd]
   decide
  rw[e3];exact Bn8 v
 simp only[ty]at v f2 I;have J:(Rd.mth s ⟨i.toNat,false⟩).2=g6 s ⟨(j+2).toNat,false⟩:=by
  rw[e3];show g6 s (Rd.ty s _).2=_;rw[I]
 rcases Rh (s:=s) (i:=j+2) (a:=0) (b:=8) Bd v Bd with ⟨K,l1,z⟩|⟨K,l1⟩
 rotate_left
 ·refine c _ ?_ ?_
  ·unfold mth;simp only;rw[Pf Bd,f,Sp K]
   decide
  rw[J];exact Bn7 l1
 rw[show j+2+1=j+3 by omega]at z;rcases Rh (s:=s) (i:=j+3) (a:=0) (b:=8) Bd Bd Bd with ⟨k0,k1,N⟩|⟨k0,k1⟩
 rotate_left
 ·refine c _ ?_ ?_
  ·unfold mth;simp only;rw[Pf Bd,f,Pf Bd,Sp k0]
   decide
  rw[J];show (g7 s (Rd.cn s 0 8 _).1 (Rd.cn s 0 8 _).2).bad=true;rw[z];exact Bn6 k1
 rw[show j+3+1=j+4 by omega]at N;have C:(Rd.mth s ⟨i.toNat,false⟩).2=g8 s (cnt s (j+2) 0 8) (cnt s (j+3) 0 8) ⟨(j+4).toNat,false⟩:=by
  rw[J];show g7 s (Rd.cn s 0 8 _).1 (Rd.cn s 0 8 _).2=_;rw[z];show g8 s _ (Rd.cn s 0 8 _).1 (Rd.cn s 0 8 _).2=_;rw[N]
 rcases Rh (s:=s) (i:=j+4) (a:=1) (b:=120) Bd Bd Bd with ⟨n0,n1,O⟩|⟨n0,n1⟩
 rotate_left
 ·refine c _ ?_ ?_
  ·unfold mth;simp only;rw[Pf Bd,f,Pf Bd,Pf Bd,Sp n0]
   decide
  rw[C];refine Bhb ?_;unfold Rd.codes;obtain⟨q,hq⟩:=Di _ n1;simp only;rw[hq];exact Oo (Gl s) _ q
 rw[show j+4+1=j+5 by omega]at O;rcases Bq4 (s:=s) (i:=j+5) (cnt s (j+4) 1 120).toNat Bd Bd with ⟨_,p,o2,Q⟩|⟨o0,p⟩
 rotate_left
 ·simp only at o0;refine c _ ?_ ?_
  ·unfold mth;simp only;rw[Pf Bd,f,Pf Bd,Pf Bd,Pf Bd,Sp Bd]
   decide
  rw[C];refine Bhb ?_;unfold Rd.codes;simp only;rw[O];exact p
 simp only at p o2 Q;rw[show j+5+(((cnt s (j+4) 1 120).toNat:Nat):Int)=j+5+cnt s (j+4) 1 120 by omega]at p Q;have V:Rd.codes s ⟨(j+4).toNat,false⟩=(codeTo s (j+5) (cnt s (j+4) 1 120).toNat,⟨(j+5+cnt s (j+4) 1 120).toNat,false⟩):=by
  unfold Rd.codes;simp only;rw[O];exact Bxd o2 Q
 rcases Bqs (s:=s) (i:=j+5+cnt s (j+4) 1 120) Bd p with ⟨p0,Y,p2,p3⟩|⟨p0,Y⟩
 rotate_left
 ·have a0:=hnds_le s (j+5+cnt s (j+4) 1 120);refine c _ ?_ ?_
  ·unfold mth;simp only;rw[Pf Bd,f,Pf Bd,Pf Bd,Pf Bd,Pf Bd,Sp Bd]
   decide
  rw[C];show (g9 s _ _ (Rd.codes s _).2).bad=true;rw[V];exact Bjn Y
 have hm:=Bsf (s:=s) (L:=cnt s (j+2) 0 8) (H:=cnt s (j+3) 0 8) K p0 Y;have e6:(Rd.mth s ⟨i.toNat,false⟩).2=(Rd.mps s (cnt s (j+2) 0 8) (cnt s (j+3) 0 8) ⟨(hnds s (j+5+cnt s (j+4) 1 120)).2.toNat,false⟩).2:=by
  rw[C];show g9 s _ _ (Rd.codes s _).2=_;rw[V];show g10 s _ _ (Rd.hnds s _).2=_;simp only;rw[p3];rfl
 have hx:mth s i=(⟨⟨at' s i,at' s (i+1),tys s (i+3) (cnt s (i+2) 0 4).toNat,(at' s j,at' s (j+1)),cnt s (j+2) 0 8,cnt s (j+3) 0 8,codeTo s (j+5) (cnt s (j+4) 1 120).toNat,(hnds s (j+5+cnt s (j+4) 1 120)).1,(mps s (hnds s (j+5+cnt s (j+4) 1 120)).2 (cnt s (j+2) 0 8) (cnt s (j+3) 0 8)).1⟩,(hnds s (j+5+cnt s (j+4) 1 120)).2,(mps s (hnds s (j+5+cnt s (j+4) 1 120)).2 (cnt s (j+2) 0 8) (cnt s (j+3) 0 8)).2⟩,(mps s (hnds s (j+5+cnt s (j+4) 1 120)).2 (cnt s (j+2) 0 8) (cnt s (j+3) 0 8)).2):=by
  unfold mth;simp only;rw[Pf Bd,f,Pf Bd,Pf Bd,Pf Bd,Pf Bd,Pf Bd]
 rw[hx];rcases hm with ⟨Z,m1,m2,m3⟩|⟨Z,m1⟩
 ·left
  refine⟨Z,m1,?_,by rw[e6];exact m3⟩;have A:Rd.nx s ⟨i.toNat,false⟩=(at' s i,⟨(i+1).toNat,false⟩):=Bxd a2 g;have B:Rd.nx s ⟨(i+1).toNat,false⟩=(at' s (i+1),⟨(i+2).toNat,false⟩):=Bxd b2 l;have D:Rd.tys s (cnt s (i+2) 0 4).toNat ⟨(i+3).toNat,false⟩=(tys s (i+3) (cnt s (i+2) 0 4).toNat,⟨j.toNat,false⟩):=Bxd d2 t;have E:Rd.ty s ⟨j.toNat,false⟩=((at' s j,at' s (j+1)),⟨(j+2).toNat,false⟩):=Bxd f2 I;have P:Rd.hnds s ⟨(j+5+cnt s (j+4) 1 120).toNat,false⟩=((hnds s (j+5+cnt s (j+4) 1 120)).1,⟨(hnds s (j+5+cnt s (j+4) 1 120)).2.toNat,false⟩):=Bxd p2 p3;simp only[Rd.mth,A,B,F,D,E,z,N,V,P];simp only[id_eq]at m2;rw[m2]
 right
 exact⟨Z,by rw[e6];exact m1⟩
def Bsd(s:TB)(i:Int)(h:(s.length:Int)<i):(mth s i).2<0:=by
 unfold mth;simp only;rw[Me Bd Bd,Sp Bd]
 decide
def Buo(s:TB)(b:Int)(p:Nat):(Rd.ex s b ⟨p,true⟩).bad=true:=by
 unfold Rd.ex
 split
 ·exact Gl s p
 rfl
def Boi{s:TB}{i b:Int}(c:0<=i)(f:i<=(s.length:Int))(g:0<=b):(at' s i=b/\i<(s.length:Int)/\Rd.ex s b ⟨i.toNat,false⟩=⟨(i+1).toNat,false⟩)\/(at' s i≠b/\(Rd.ex s b ⟨i.toNat,false⟩).bad=true):=by
 unfold Rd.ex;by_cases h:i<(s.length:Int)
 ·rw[Y9 c h];by_cases e:at' s i=b;·left;rw[Sp e];exact⟨e,h,rfl⟩
  right;rw[Pf e];exact⟨e,rfl⟩
 right
 rw[Xz Bd,at_out Bd];refine⟨Bd,?_⟩
 split<;>rfl
def fil_same(s:TB):((Rd.fil s ⟨0,false⟩).2.bad=false/\(Rd.fil s ⟨0,false⟩).2.pos=s.length<->(fil s).2.2=(s.length:Int))/\((fil s).2.2=(s.length:Int)->(Rd.fil s ⟨0,false⟩).1.classes=(fil s).1/\(Rd.fil s ⟨0,false⟩).1.methods=(fil s).2.1.map Mth.m):=by
 -- the stages of the program's reader
 have e:(Rd.fil s ⟨0,false⟩).2=(Rd.rep (Rd.mth s) (Rd.cn s 1 6 (Rd.rep (Rd.cls s) (Rd.cn s 0 6 (Rd.ex s 77 (Rd.ex s 83 ⟨0,false⟩))).1.toNat (Rd.cn s 0 6 (Rd.ex s 77 (Rd.ex s 83 ⟨0,false⟩))).2).2).1.toNat
   (Rd.cn s 1 6 (Rd.rep (Rd.cls s) (Rd.cn s 0 6 (Rd.ex s 77 (Rd.ex s 83 ⟨0,false⟩))).1.toNat (Rd.cn s 0 6 (Rd.ex s 77 (Rd.ex s 83 ⟨0,false⟩))).2).2).2).2:=by simp only[Rd.fil]
 have N:∀(k:Nat) (t:Rd.St),t.bad=true->(Rd.rep (Rd.mth s) k t).2.bad=true:=fun k t z=>by
  obtain⟨p,rfl⟩:=Di t z;exact Oo (Bje s) k p
 have B:∀(t:Rd.St),t.bad=true->(Rd.rep (Rd.mth s) (Rd.cn s 1 6 t).1.toNat (Rd.cn s 1 6 t).2).2.bad=true:=fun t z=>by
  obtain⟨p,rfl⟩:=Di t z;exact N _ _ (J4 s 1 6 p)
 have C:∀(k:Nat) (t:Rd.St),t.bad=true->(Rd.rep (Rd.cls s) k t).2.bad=true:=fun k t z=>by
  obtain⟨p,rfl⟩:=Di t z;exact Oo (Bjr s) k p
 have f:(Rd.fil s ⟨0,false⟩).2.bad=true->(fil s).2.2≠(s.length:Int) ->
   ((Rd.fil s ⟨0,false⟩).2.bad=false/\(Rd.fil s ⟨0,false⟩).2.pos=s.length<->(fil s).2.2=(s.length:Int)) /\
   ((fil s).2.2=(s.length:Int)->(Rd.fil s ⟨0,false⟩).1.classes=(fil s).1/\(Rd.fil s ⟨0,false⟩).1.methods=(fil s).2.1.map Mth.m):=by
  intro a b;refine⟨⟨fun h=>?_,fun h=>absurd h b⟩,fun h=>absurd h b⟩;rw[a]at h;exact absurd h.1 Fr
 rcases Boi (s:=s) (i:=0) (b:=83) Bd Bd Bd with ⟨O,Q,a3⟩|⟨O,Q⟩
 rotate_left
 ·refine f ?_ ?_
  ·rw[e];refine B _ (C _ _ ?_);have h1:(Rd.ex s 83 ⟨0,false⟩).bad=true:=Q;obtain⟨p,hp⟩:=Di _ h1;rw[hp];obtain⟨q,D⟩:=Di _ (Buo s 77 p);rw[D];exact J4 s 0 6 q
  unfold fil;rw[Sp O];simp only;omega
 have c:Rd.ex s 83 ⟨0,false⟩=⟨(0+1:Int).toNat,false⟩:=a3;rcases Boi (s:=s) (i:=0+1) (b:=77) Bd Bd Bd with ⟨j,V,l⟩|⟨j,V⟩
 rotate_left
 ·refine f ?_ ?_
  ·rw[e,c];refine B _ (C _ _ ?_);obtain⟨q,D⟩:=Di _ V;rw[D];exact J4 s 0 6 q
  unfold fil;rw[Pf Bd,Sp (show at' s 1≠77 from j)];simp only;omega
 rcases Rh (s:=s) (i:=0+1+1) (a:=0) (b:=6) Bd Bd Bd with ⟨F,Y,A⟩|⟨F,Y⟩
 rotate_left
 ·refine f ?_ ?_
  ·rw[e,c,l];exact B _ (C _ _ Y)
  unfold fil;rw[Pf Bd,Pf (show ¬at' s 1≠77 from fun h=>h j),Sp (show cnt s 2 0 6<0 from F)];simp only;omega
 have a7:0<=cnt s 2 0 6:=F;have hc:=Vk (g:=id) (fun i a b=>Bs5 (s:=s) a b) (Bjr s) (fun i G=>.inl (Bs4 s i G)) (cnt s 2 0 6).toNat 3 Bd Bd;rcases hc with ⟨Z,I,d2,J⟩|⟨Z,I⟩
 rotate_left
 ·refine f ?_ ?_
  ·rw[e,c,l,A];exact B _ I
  unfold fil;rw[Pf Bd,Pf (show ¬at' s 1≠77 from fun h=>h j),Pf (show ¬cnt s 2 0 6<0 by omega)];simp only
  split
  ·simp only;omega
  rw[Me Bd Bd,Sp Bd];simp only;omega
 have a5:(Rd.rep (Rd.cls s) (cnt s 2 0 6).toNat ⟨(3:Int).toNat,false⟩).1=(rep (cls s) (cnt s 2 0 6).toNat 3).1:=by simpa using d2
 rcases Rh (s:=s) (i:=(rep (cls s) (cnt s 2 0 6).toNat 3).2) (a:=1) (b:=6) Z I Bd with ⟨e0,e1,e2⟩|⟨e0,e1⟩
 rotate_left
 ·refine f ?_ ?_
  ·rw[e,c,l,A];show (Rd.rep (Rd.mth s) (Rd.cn s 1 6 (Rd.rep (Rd.cls s) (cnt s 2 0 6).toNat ⟨(3:Int).toNat,false⟩).2).1.toNat (Rd.cn s 1 6 (Rd.rep (Rd.cls s) (cnt s 2 0 6).toNat ⟨(3:Int).toNat,false⟩).2).2).2.bad=true;rw[J];exact N _ _ e1
  unfold fil;rw[Pf Bd,Pf (show ¬at' s 1≠77 from fun h=>h j),Pf (show ¬cnt s 2 0 6<0 by omega)];simp only;rw[Pf Bd,Sp e0];simp only;omega
 have hm:=Vk (g:=Mth.m) (fun i a b=>Bse (s:=s) a b) (Bje s) (fun i G=>.inl (Bsd s i G)) (cnt s (rep (cls s) (cnt s 2 0 6).toNat 3).2 1 6).toNat ((rep (cls s) (cnt s 2 0 6).toNat 3).2+1) Bd Bd;have a0:(Rd.fil s ⟨0,false⟩).2=(Rd.rep (Rd.mth s) (cnt s (rep (cls s) (cnt s 2 0 6).toNat 3).2 1 6).toNat ⟨((rep (cls s) (cnt s 2 0 6).toNat 3).2+1).toNat,false⟩).2:=by
  rw[e,c,l,A];show (Rd.rep (Rd.mth s) (Rd.cn s 1 6 (Rd.rep (Rd.cls s) (cnt s 2 0 6).toNat ⟨(3:Int).toNat,false⟩).2).1.toNat (Rd.cn s 1 6 (Rd.rep (Rd.cls s) (cnt s 2 0 6).toNat ⟨(3:Int).toNat,false⟩).2).2).2=_;rw[J,e2]
 have a6:∀v:List Mth×Int,rep (mth s) (cnt s (rep (cls s) (cnt s 2 0 6).toNat 3).2 1 6).toNat ((rep (cls s) (cnt s 2 0 6).toNat 3).2+1)=v->fil s=if v.2<0 then ([],[],-1) else ((rep (cls s) (cnt s 2 0 6).toNat 3).1,v.1,v.2):=by
  intro v a4;unfold fil;rw[Pf Bd,Pf (show ¬at' s 1≠77 from fun h=>h j),Pf (show ¬cnt s 2 0 6<0 by omega)];simp only;rw[Pf Bd,Pf Bd,a4]
 have K:=a6 _ rfl;generalize a4:rep (mth s) (cnt s (rep (cls s) (cnt s 2 0 6).toNat 3).2 1 6).toNat ((rep (cls s) (cnt s 2 0 6).toNat 3).2+1)=v at *;rcases hm with ⟨m0,m1,m2,m3⟩|⟨m0,m1⟩
 ·rw[Pf Bd]at K;rw[K,a0,m3];refine⟨⟨fun h=>?_,fun h=>?_⟩,fun _=>⟨?_,?_⟩⟩
  ·simp only at h ⊢;omega
  ·simp only at h ⊢;exact⟨trivial,Bd⟩
  ·have L:(Rd.fil s ⟨0,false⟩).1.classes=(Rd.rep (Rd.cls s) (Rd.cn s 0 6 (Rd.ex s 77 (Rd.ex s 83 ⟨0,false⟩))).1.toNat (Rd.cn s 0 6 (Rd.ex s 77 (Rd.ex s 83 ⟨0,false⟩))).2).1:=by simp only[Rd.fil]
   rw[L,c,l,A];exact a5
  have L:(Rd.fil s ⟨0,false⟩).1.methods=(Rd.rep (Rd.mth s) (Rd.cn s 1 6 (Rd.rep (Rd.cls s) (Rd.cn s 0 6 (Rd.ex s 77 (Rd.ex s 83 ⟨0,false⟩))).1.toNat (Rd.cn s 0 6 (Rd.ex s 77 (Rd.ex s 83 ⟨0,false⟩))).2).2).1.toNat
    (Rd.cn s 1 6 (Rd.rep (Rd.cls s) (Rd.cn s 0 6 (Rd.ex s 77 (Rd.ex s 83 ⟨0,false⟩))).1.toNat (Rd.cn s 0 6 (Rd.ex s 77 (Rd.ex s 83 ⟨0,false⟩))).2).2).2).1:=by simp only[Rd.fil]
  rw[L,c,l,A];show (Rd.rep (Rd.mth s) (Rd.cn s 1 6 (Rd.rep (Rd.cls s) (cnt s 2 0 6).toNat ⟨(3:Int).toNat,false⟩).2).1.toNat (Rd.cn s 1 6 (Rd.rep (Rd.cls s) (cnt s 2 0 6).toNat ⟨(3:Int).toNat,false⟩).2).2).1=_;rw[J,e2];exact m2
 refine f (by rw[a0];exact m1) ?_;rw[K]
 split
 ·simp only;omega
 simp only;omega
end Rf
def Kz (w:TW)(b:Nat)(v:TX)(l:List Rd.Hnd):Prop:=w.ownsRow b 164 4 v l.length (Et l)
def Kz.kp{l:List Rd.Hnd}(h:Kz w u i l)(c:Kp e u w b)(f:some 164≠e):Kz b u i l:=Cx h c f
def Kz.mono{b':Nat}{l:List Rd.Hnd}(h:Kz w u i l)(c:b'<=u):Kz w b' i l:=D8 h c
def Ir (w:TW)(b:Nat)(v:TX)(l:List (Rd.Cls × Value)):Prop :=
 w.ownsRow b 225 2 v l.length (Kr l)/\∀p∈l,Dp w b p.2 p.1.fields
def Ir.kp{J:List (Rd.Cls×Value)}(h:Ir w u i J)(c:Kp e u w b)(f:some 225≠e)(g:some 31≠e):Ir b u i J :=
 ⟨Cx h.1 c f,fun p j=>(h.2 p j).kp c g⟩
def Ir.mono{b':Nat}{J:List (Rd.Cls×Value)}(h:Ir w u i J)(c:b'<=u):Ir w b' i J:=⟨D8 h.1 c,fun p e=>(h.2 p e).mono c⟩
def Oi (w:TW)(b:Nat)(v:TX)(l:List (Rd.Mp × Value × Value)):Prop :=
 w.ownsRow b 168 3 v l.length (Mn l)/\∀p∈l,Dp w b p.2.1 p.1.locals/\Dp w b p.2.2 p.1.stack
def Oi.kp{l:List (Rd.Mp×Value×Value)}(h:Oi w u i l)(c:Kp e u w b)(j:some 168≠e)(f:some 31≠e):Oi b u i l :=
 ⟨Cx h.1 c j,fun p g=>⟨(h.2 p g).1.kp c f,(h.2 p g).2.kp c f⟩⟩
def Oi.mono{b':Nat}{l:List (Rd.Mp×Value×Value)}(h:Oi w u i l)(c:b'<=u):Oi w b' i l:=⟨D8 h.1 c,fun p e=>⟨(h.2 p e).1.mono c,(h.2 p e).2.mono c⟩⟩
def Bo0 (w:TW)(b:Nat)(v:TX)(ms:List Rd.Mp):Prop:=∃l,l.map Prod.fst=ms/\Oi w b v l
structure Ms where
 params:Value
 code:ByteArray
 handlers:Value
 maps:Value
def Nr (x:Rf.Mth)(u:Ms):List Value :=
 [.int .i64 x.m.cl,.int .i64 x.m.name,u.params,.int .i64 x.m.result.1,.int .i64 x.m.result.2,.int .i64 x.m.locals,.int .i64 x.m.stack,.string u.code,u.handlers,u.maps,.int .i64 x.mapsAt,.int .i64 x.fin]
def Sx (w:TW)(b:Nat)(x:Rf.Mth)(u:Ms):Prop :=
 Dp w b u.params x.m.params/\u.code.data.toList.map (fun c=>(c.toNat:Int))=x.m.code/\Kz w b u.handlers x.m.handlers/\Bo0 w b u.maps x.m.maps
def Sx.kp{x:Rf.Mth}{g:Ms}(h:Sx w u x g)(i:Kp e u w b)(j:some 31≠e)(m:some 164≠e)(p:some 168≠e):Sx b u x g:=by
 obtain⟨a,c,d,l,q,f⟩:=h;exact⟨a.kp i j,c,d.kp i m,l,q,f.kp i p j⟩
def Sx.mono{b':Nat}{x:Rf.Mth}{e:Ms}(h:Sx w u x e)(g:b'<=u):Sx w b' x e:=by
 obtain⟨a,c,d,l,i,f⟩:=h;exact⟨a.mono g,c,d.mono g,l,i,f.mono g⟩
def Rq (l:List (Rf.Mth × Ms)):List Value:=l.flatMap fun x=>Nr x.1 x.2
def Bfc(l:List (Rf.Mth×Ms))(x:Rf.Mth×Ms):Rq (l++[x])=Rq l++Nr x.1 x.2:=by simp[Rq]
def Mf (w:TW)(b:Nat)(v:TX)(l:List (Rf.Mth × Ms)):Prop :=
 w.ownsRow b 109 12 v l.length (Rq l)/\∀p∈l,Sx w b p.1 p.2
def Mf.kp{l:List (Rf.Mth×Ms)}(h:Mf w u i l)(c:Kp e u w b)(f:some 109≠e)(g:some 31≠e)(j:some 164≠e)(m:some 168≠e):Mf b u i l :=
 ⟨Cx h.1 c f,fun p q=>(h.2 p q).kp c g j m⟩
def Mf.mono{b':Nat}{l:List (Rf.Mth×Ms)}(h:Mf w u i l)(c:b'<=u):Mf w b' i l:=⟨D8 h.1 c,fun p e=>(h.2 p e).mono c⟩
def Uv{i:Nat}(h:i<s.size):Rf.at' s.data.toList (i:Int)=(s[i].toNat:Int):=by
 have b:i<s.data.toList.length:=by simpa using h
 have e:s.data.toList[i]?.getD 0=s[i]:=by rw[Ws b];rfl
 unfold Rf.at';rw[Pf Bd,Pf Bd,Bvn,e]
def Gy(s:ByteArray)(i:Int)(w:TW)(g:s.size<=maxLen):Calls prog 135 #[.string s,.i i] w fun e b=>e=.r (.i (Rf.at' s.data.toList i))/\w=b:=by
 have h:s.data.toList.length=s.size:=Fr;by_cases c:i<0
 ·have e:Rf.at' s.data.toList i = -1:=by unfold Rf.at';rw[Sp c]
  rw[e];go_in;go_wp2;go_ret;exact⟨rfl,rfl⟩
 by_cases j:(s.size:Int)<=i;·rw[Rf.at_out Bd];go_in;go_wp2;go_ret;exact⟨rfl,rfl⟩
 obtain⟨k,rfl⟩:=Bvk (show 0<=i by omega);have f:k<s.size:=Bd;rw[Uv f];go_in;go_wp2;go_ret;exact⟨Bja (Bdo _),rfl⟩
def Ej(s:ByteArray)(i b c:Int)(w:TW)(f:s.size<=maxLen):Calls prog 136 #[.string s,.i i,.i b,.i c] w fun e m=>e=.r (.i (Rf.cnt s.data.toList i b c))/\w=m:=by
 unfold Rf.cnt;generalize p:Rf.at' s.data.toList i=r;have g:=Bc p;by_cases h:r<b
 ·rw[Sp h];go_in;go_wp2_with (go_at_call 135;refine(Gy s i _ f).mono ?_;rw[Ba g];rintro e j ⟨rfl,rfl⟩)
  go_ret;exact⟨rfl,rfl⟩
 rw[Pf h];by_cases l:c<r
 ·rw[Sp l];go_in;go_wp2_with (go_at_call 135;refine(Gy s i _ f).mono ?_;rw[Ba g];rintro e j ⟨rfl,rfl⟩)
  go_ret;exact⟨rfl,rfl⟩
 rw[Pf l];go_in;go_wp2_with (go_at_call 135;refine(Gy s i _ f).mono ?_;rw[Ba g];rintro e j ⟨rfl,rfl⟩)
 go_ret;exact⟨rfl,rfl⟩
def Oy(s:TB)(i:Int)(n:Nat):(Rf.tys s i n).length=n:=by
 induction n with
 | zero=>rfl
 | succ k ih=>simp[Rf.tys,ih]
def Lj(s:ByteArray)(i n:Int)(w:TW)(g:s.size<=maxLen)(a0:0<=i)(a1:i<=1000000)(a2:0<=n)(a3:n<=255):Calls prog 198 #[.string s,.i i,.i n] w fun e h => ∃a c,e=.r (.s a n.toNat c)/\Dp h w.heap.size (.s a n.toNat c) (Rf.tys s.data.toList i n.toNat)/\Bl w h:=by
 obtain⟨t,z,A,B,C⟩:=Bv4 Tryz.infoType;go_in;go_wp2
 go_loopw [7,8] (fun v j wr=>∃k:Nat,(k:Int)<=n/\j=.i k/\wr.ownsRow w.heap.size 31 2 v k (Bu (Rf.tys s.data.toList i k))/\Bl w wr)
  (fun _ j _=>n.toNat-(intOf j).toNat)
 case atStart=>exact⟨0,Bd,rfl,Bvl _ _ _ _,Vm _ _⟩
 case round=>
  obtain⟨k,hk,rfl,b,f⟩:=hrel;have D:=f.size;by_cases a4:(k:Int)<n
  ·generalize F:Rf.tys s.data.toList i k=p at *;generalize l:Rf.at' s.data.toList (i+2*(k:Int))=x at *;generalize m:Rf.at' s.data.toList (i+2*(k:Int)+1)=y at *;have G:Hid (Rf.tys s.data.toList i (k+1)=p++[(x,y)]):=by unfold Hid;rw[Rf.tys,F,l,m]
   have I:=Bc l;have J:=Bc m;go_wp2_with fail;refine(Gy s (i+2*(k:Int)) _ g).mono ?_;rw[Ba I];rintro e K ⟨rfl,rfl⟩;go_wp2_with fail;refine(Gy s (i+2*(k:Int)+1) _ g).mono ?_;rw[Ba J];rintro e K ⟨rfl,rfl⟩;go_wp2_with (at_builtin;refine Bvw _ rfl _ _ 105 rfl w.heap.size 31 t _ 2 16 Bwq z A B C rfl Ck _ _ _ rfl (b.alloc _) ⟨wr.heap.size,0,none⟩ 1 1 [.i x,.i y] rfl rfl ?c1 ?c2 ?c3 ?c4 ?c5 ?_)
   case c1=>exact Dv _ _ _ _ rfl
   case c2=>intro u q;simp at q;rcases q with rfl|rfl<;>rfl
   case c3=>unfold maxLen;omega
   case c4=>omega
   case c5=>simp;omega
   intro L N O Q _;have V:N.ownsRow w.heap.size 31 2 L (k+1) (Bu (Rf.tys s.data.toList i (k+1))):=by
    rw[Ba G,Xd];exact O
   have Y:=(f.alloc D (O7 x y)).grown Q Fm (fun j Z=>(b.lt j Z).1);go_wp2;go_roundw
   case rel=>exact⟨k+1,Bd,Lt,V,Y⟩
   case measure=>simp[intOf];omega
  obtain rfl:k=n.toNat:=Bd;obtain⟨va,vc,rfl⟩:=Bg b;go_wp2;go_ret;refine⟨_,_,rfl,?_,f⟩;unfold Dp;rw[Oy];exact b
def Bb2(s:ByteArray)(i:Int)(w:TW)(b:s.size<=maxLen)(F:0<=i)(G:i<=100000):Calls prog 137 #[.string s,.i i] w fun e j => ∃x a n c,e=.r (.tuple #[.agg #[.i x,.s a n c],.i (Rf.cls s.data.toList i).2])/\(0<=(Rf.cls s.data.toList i).2->x=(Rf.cls s.data.toList i).1.above/\Dp j w.heap.size (.s a n c) (Rf.cls s.data.toList i).1.fields)/\Bl w j:=by
 unfold Rf.cls;generalize l:Rf.cnt s.data.toList (i+1) 0 4=r;have m:=Rf.cnt_bd s.data.toList (i+1) 0 4 Bd;rw[l]at m;obtain⟨I,g⟩:=m;have p:=Bc l;by_cases q:r<0;·rw[Sp q];go_in;go_wp2_with fail;refine(Ej s (i+1) 0 4 _ b).mono ?_;rw[Ba p];rintro e f ⟨rfl,rfl⟩;go_wp2_with fail;refine tb (.tuple #[.agg #[.i 0,.s none 0 0],.i (-1)]) (by simp[results,results137,go_sem]) ?_;exact⟨0,none,0,0,rfl,fun h=>absurd h Ck,QN _⟩
 rw[Pf q];generalize A:Rf.at' s.data.toList i=x;have B:=Bc A;go_in;go_wp2_with fail;refine(Ej s (i+1) 0 4 _ b).mono ?_;rw[Ba p];rintro e f ⟨rfl,rfl⟩;go_wp2_with fail;refine(Gy s i _ b).mono ?_;rw[Ba B];rintro e f ⟨rfl,rfl⟩;go_wp2_with fail;refine(Lj s (i+2) r _ b Bd Bd Bd Bd).mono ?_;rintro e f ⟨a,c,rfl,C,g⟩;have t:=(g.block w.heap.size Fr).trans (Bf w _);obtain⟨v,z⟩:=cl2 t;obtain⟨J,K⟩:=fr2 t;simp at v z;have D:Bl w f:=(QN _).trans (g.mono Fr);go_wp2_with fail;refine tb (.tuple #[.agg #[.i x,.s a r.toNat c],.i (i+2+2*r)]) (by simp[results,results137,go_sem,v,z]) ?_;refine⟨_,_,_,_,rfl,fun _=>⟨rfl,?_⟩,(D.setCell Fr _).setCell Fr _⟩;exact D8 (Bx3 (Bx3 C Fr _) Fr _) Fr
def Tryz.infoRMap:(prog.info? 168).map (fun i=>(i.zero,i.size,i.bytes))=some (some (.agg #[.i 0,.s none 0 0,.s none 0 0]),3,56):=Le
def Bbc{α:Type}{f:Int->α×Int}(e:0<=(Rf.rep f k c).2)(h:(f (Rf.rep f k c).2).2<0)(m:Nat)(g:k<m):(Rf.rep f m c)=([],-1):=by
 have b:Rf.rep f (k+1) c=([],-1):=by
  unfold Rf.rep;rw[Pf Bd,Sp h]
 have:∀n,Rf.rep f (k+1+n) c=([],-1):=by
  intro n
  induction n with
  | zero=>exact b
  | succ j ih =>
   rw[show k+1+(j+1)=(k+1+j)+1 by omega];unfold Rf.rep;rw[ih,Sp Fr]
 obtain⟨n,rfl⟩:∃n,m=k+1+n:=⟨m-(k+1),Bd⟩;exact this n
def Bsg{s:TB}{L H i:Int}(h:0<=(Rf.mp s L H i).2)(e:H<=8)(f:L<=8)(g:0<=L):(Rf.mp s L H i).2<=i+34/\i<=(Rf.mp s L H i).2:=by
 unfold Rf.mp at h ⊢
 split
 ·rename_i c;rw[Sp c]at h;simp at h
 rename_i c;by_cases b:-1<=H;·have:=Rf.cnt_bd s (i+1+2*L) 0 H b;simp only;omega
 exfalso
 unfold Rf.cnt at c;have:=Rf.at_bd s (i+1+2*L)
 split at c
 ·omega
 split at c<;>omega
def Bmv(s:ByteArray)(i L H:Int)(w:TW)(f:s.size<=maxLen)(d2:0<=i)(d3:i<=100000)(b8:0<=L)(d4:L<=8)(d5:0<=H)(d6:H<=8):Calls prog 200 #[.string s,.i i,.i L,.i H] w fun e w' => ∃a n c l,e=.r (.tuple #[.s a n c,.i (Rf.mps s.data.toList i L H).2])/\l.map Prod.fst=(Rf.mps s.data.toList i L H).1/\Oi w' w.heap.size (.s a n c) l/\Bl w w':=by
 obtain⟨i0,hi,b9,c0,c6⟩:=Bv4 Tryz.infoRMap;unfold Rf.mps;generalize Q:Rf.cnt s.data.toList i 0 64=r;have hb:=Rf.cnt_bd s.data.toList i 0 64 Bd;rw[Q]at hb;obtain⟨d7,G⟩:=hb;have HR:=Bc Q;clear Q;by_cases h0:r<0;·rw[Sp h0];go_in;go_wp2_with fail;refine(Ej s i 0 64 _ f).mono ?_;rw[Ba HR];rintro e A ⟨rfl,rfl⟩;go_wp2;go_ret2;exact⟨none,0,0,[],rfl,rfl,⟨Bvl _ _ _ _,Fr⟩,Vm _ _⟩
 rw[Pf h0];generalize g:Rf.rep (Rf.mp s.data.toList L H) r.toNat (i+1)=z;have HZ:=Bc g;clear g;go_in;go_wp2_with fail;refine(Ej s i 0 64 _ f).mono ?_;rw[Ba HR];rintro e A ⟨rfl,rfl⟩;go_wp2
 go_loopw [1,11,12] (fun p v j wr=>∃(k:Nat) (q:Int) (l:List (Rd.Mp×Value×Value)),(k:Int)<=r/\j=.i k/\p=.i q/\l.length=k/\0<=q/\q<=i+1+34*(k:Int)/\Hid (Rf.rep (Rf.mp s.data.toList L H) k (i+1)=(l.map Prod.fst,q)) /\
   Oi wr w.heap.size v l/\Bl w wr)
  (fun _ _ j _=>r.toNat-(intOf j).toNat)
 case atStart=>exact⟨0,_,[],Bd,rfl,rfl,rfl,Bd,Bd,rfl,⟨Bvl _ _ _ _,Fr⟩,Vm _ _⟩
 case round=>
  obtain⟨k,q,l,hk,rfl,rfl,I,a8,d8,J,K,B⟩:=hrel;have a9:=B.size;by_cases d9:(k:Int)<r
  ·generalize C:Rf.at' s.data.toList q=x;generalize t:Rf.cnt s.data.toList (q+1+2*L) 0 H=h;have b0:=Rf.cnt_bd s.data.toList (q+1+2*L) 0 H Bd;rw[t]at b0;obtain⟨f0,f1⟩:=b0;by_cases b1:h<0
   ·have g:z=([],-1):=by
     rw[<- Ba HZ];refine Bbc (k:=k) ?_ ?_ _ Bd
     ·rw[Ba J];exact a8
     rw[Ba J];unfold Rf.mp;rw[t,Sp b1]
     decide
    have D:=Bc g;have V:=Bc C;have Y:=Bc t;clear g C t I;go_wp2_with fail;refine(Gy s q _ f).mono ?_;rw[Ba V];rintro e A ⟨rfl,rfl⟩;go_wp2_with fail;refine(Ej s (q+1+2*L) 0 H _ f).mono ?_;rw[Ba Y];rintro e A ⟨rfl,rfl⟩;go_wp2;go_ret2;exact⟨none,0,0,[],by rw[Ba D];rfl,by rw[Ba D];rfl,⟨Bvl _ _ _ _,Fr⟩,B⟩
   generalize Z:Rf.tys s.data.toList (q+1) L.toNat=q2;generalize a0:Rf.tys s.data.toList (q+2+2*L) h.toNat=q4;have b2:Rf.mp s.data.toList L H q=(⟨x,q2,q4⟩,q+2+2*L+2*h):=by
    unfold Rf.mp;rw[t,Pf b1,C,Z,a0]
   have HE:Hid (Rf.rep (Rf.mp s.data.toList L H) (k+1) (i+1)=(l.map Prod.fst++[⟨x,q2,q4⟩],q+2+2*L+2*h)):=Rf.rep_step (Ba J) a8 b2 Bd;have V:=Bc C;have Y:=Bc t;have c7:=Bc Z;have c8:=Bc a0;have a3:=Bc I;clear C t Z a0 b2 I;go_wp2_with fail;refine(Gy s q _ f).mono ?_;rw[Ba V];rintro e A ⟨rfl,rfl⟩;go_wp2_with fail;refine(Ej s (q+1+2*L) 0 H _ f).mono ?_;rw[Ba Y];rintro e A ⟨rfl,rfl⟩;go_wp2_with fail;refine(Lj s (q+1) L _ f Bd Bd b8 Bd).mono ?_;rw[Ba c7];rintro e A ⟨a1,c1,rfl,b3,G⟩;have a4:=B.trans (G.mono a9);have b4:=a4.size;go_wp2_with fail;refine(Lj s (q+2+2*L) h _ f Bd Bd Bd Bd).mono ?_;rw[Ba c8];rintro e w2 ⟨a2,c2,rfl,b5,N⟩;have a5:=a4.trans (N.mono b4);have c9:=a5.size;have T1:=(b3.mono a9).kp (Kp.of_below (e:=none) N) Ck;have T2:=b5.mono b4;have a6:=(K.kp (Kp.of_below (e:=none) G) Ck Ck).kp (Kp.of_below (e:=none) N) Ck Ck;have b6:=Bc a6.2;have O:=a6.1;clear b3 b5 K a6 B a4 G N;go_wp2_with (at_builtin;refine Bvw _ rfl _ _ 107 rfl w.heap.size 168 i0 _ 3 56 underlying107 hi b9 c0 c6 rfl Ck _ _ _ rfl (O.alloc _) ⟨w2.heap.size,0,none⟩ 1 1 [.i x,.s a1 L.toNat c1,.s a2 h.toNat c2] rfl rfl ?c1 ?c2 ?c3 ?c4 ?c5 ?_)
   case c1=>exact Dv _ _ _ _ rfl
   case c2=>intro u hu;simp at hu;rcases hu with rfl|rfl|rfl<;>rfl
   case c3=>have:=Ba a3;unfold maxLen;omega
   case c4=>have:=Ba a3;omega
   case c5=>simp;omega
   intro v' w3 b7 a7 _;have d0:=(a5.alloc c9 (O9 x a1 L.toNat c1 a2 h.toNat c2)).grown a7 Fm (fun j hj=>(O.lt j hj).1);have F:=(Kp.alloc (e:=some 168) (b:=w.heap.size) _ _).trans (Kp.of_grown a7 (O.alloc _));have d1:Oi w3 w.heap.size v' (l++[(⟨x,q2,q4⟩,.s a1 L.toNat c1,.s a2 h.toNat c2)]):=by
    refine⟨?_,?_⟩
    ·rw[Xj,Up];exact b7
    intro p m;rw[Bwt]at m;rcases m with m|m
    ·exact⟨(Ba b6 p m).1.kp F Ck,(Ba b6 p m).2.kp F Ck⟩
    simp only[Bxa]at m;subst m;exact⟨T1.kp F Ck,T2.kp F Ck⟩
   clear a7 O b7 F T1 T2 a5;go_wp2;go_roundw
   case rel=>exact⟨k+1,_,_,Bd,Lt,rfl,by rw[Up,Ba a3];rfl,Bd,Bd,by unfold Hid;rw[Ba HE,Bvx];rfl,d1,d0⟩
   case measure=>simp[intOf];omega
  obtain rfl:k=r.toNat:=Bd;have g:z=(l.map Prod.fst,q):=by rw[<- Ba HZ];exact Ba J
  have D:=Bc g;clear g I;obtain⟨va,vc,rfl⟩:=Bg K.1;go_wp2;go_ret2;exact⟨_,_,_,by rw[Ba D];rfl,l,by rw[Ba D],K,B⟩
def Bbz{P:Program}{B:Array Oper}{o:Oper}{a:Act}{K:Act->TW->Prop}{Q:Exit->Act->TW->Prop}{E:Prop} (C:o.guard=none)(s x:Operand)(t:TypeId)(D:o.op=Op.call { callee:=Callee.builtin Builtin.append,args:=#[s,x],argTypes:=#[t,t] }) (h:Nat)(e:TypeId)(i:TypeInfo)(z:TX)(b p:Nat)(F:P.underlying t=some (.s e))(G:P.info? e=some i)(I:i.zero=some z)(J:i.size=b)(L:i.bytes=p)(N:z.cells.size=b)(O:0<b) (v:TX)(n:Nat)(q:TV)(V:a.eval s=v)(Y:w.ownsRow h e b v n q) (A:Addr)(m c:Nat)(f:TV)(Z:a.eval x=.s (some A) m c)(hn:f.length=m*b)(hc:∀j u,f[j]?=some u->w.cell? (A.add j)=some u)(a0:∀u∈f,u.oneCell'=true) (b1:n+m<=maxLen)(b2:(n+m)*p<=140737488355328)(b3:h<=w.heap.size) (hK:∀l g,g.ownsRow h e b l (n+m) (q++f)->w.grownBy g v.ownBlock->K (a.put o.dst l) g):if Region.wanted o (yielded B a.tmps)=true then Oper.wp P o a w K Q else E:=by
 have hw:Region.wanted o (yielded B a.tmps)=true:=by simp[Region.wanted,C]
 rw[Sp hw];obtain⟨l,g,a1,r1,r2,_⟩:=run_append_own (P:=P) w h t o.type e i z b p F G I J L N O v n q Y A m c f hn hc a0 b1 b2 b3;unfold Oper.wp;simp[execOp,D,resolve,invoke,builtin,V,Z,a1,Result.andThen];exact hK l g r1 r2
def Tryz.infoRHandler:(prog.info? 164).map (fun i=>(i.zero,i.size,i.bytes))=some (some (.agg #[.i 0,.i 0,.i 0,.i 0]),4,32):=Le
def Ben(s:TB)(i:Int)(n:Nat):(Rf.hndTo s i n).length=n:=by
 induction n with
 | zero=>rfl
 | succ k ih=>simp[Rf.hndTo,ih]
def Eg(n:Int)(b:-9223372036854775808<=n)(c:n<=9223372036854775807):IntKind.i64.wrap n=n:=by
 rw[Go.IntWalk.i64_left,Go.IntWalk.wrap64_in _ ⟨b,c⟩]
theorem Bd1(s:ByteArray)(i:Int)(w:World)(f:s.size<=maxLen)(a5:0<=i)(a6:i<=100000):Calls prog 199 #[.string s,.int .i64 i] w fun e m => ∃a n c,e=.returned (.tuple #[.slice a n c,.int .i64 (Rf.hnds s.data.toList i).2])/\Kz m w.heap.size (.slice a n c) (Rf.hnds s.data.toList i).1/\Below w.heap.size w m:=by
 obtain⟨D,F,G,I,J⟩:=Bv4 Tryz.infoRHandler;have K:s.data.toList.length=s.size:=Fr;unfold Rf.hnds;rw[K];generalize g:Rf.cnt s.data.toList i 0 4=r;have p:=Rf.cnt_bd s.data.toList i 0 4 Bd;rw[g]at p;obtain⟨a7,a8⟩:=p;have h:=Bc g;clear g;by_cases t:r<0;·rw[Sp t];go_in;go_wp2_with fail;refine(Ej s i 0 4 _ f).mono ?_;rw[Ba h];rintro e z ⟨rfl,rfl⟩;go_wp2;go_ret2;exact⟨none,0,0,rfl,Bvl _ _ _ _,Vm _ _⟩
 rw[Pf t];by_cases A:(s.size:Int)<i+1+4*r;·rw[Sp A];go_in;go_wp2_with fail;refine(Ej s i 0 4 _ f).mono ?_;rw[Ba h];rintro e z ⟨rfl,rfl⟩;go_wp2;go_ret2;exact⟨none,0,0,rfl,Bvl _ _ _ _,Vm _ _⟩
 rw[Pf A];unfold Kz;dsimp only;rw[Ben];have d0:decide (r<0)=false:=Fm;have d1:decide ((s.size:Int)<i+1+4*r)=false:=Fm;go_in;go_wp2_with fail;refine(Ej s i 0 4 _ f).mono ?_;rw[Ba h];rintro e z ⟨rfl,rfl⟩;go_wp2
 go_loopw [7,8] (fun v j wr=>∃k:Nat,(k:Int)<=r/\j=.int .i64 k/\wr.ownsRow w.heap.size 164 4 v k (Et (Rf.hndTo s.data.toList i k))/\Below w.heap.size w wr)
  (fun _ j _=>r.toNat-(intOf j).toNat)
 case atStart=>exact⟨0,Bd,rfl,Bvl _ _ _ _,Vm _ _⟩
 case round=>
  obtain⟨k,hk,rfl,b,l⟩:=hrel;have L:=l.size;by_cases a9:(k:Int)<r
  ·obtain⟨q,N⟩:=Bvk (show 0<=i+1+4*(k:Int) by omega);have O:q+3<s.size:=Bd;have Q:q+2<s.size:=Bd;have V:q+1<s.size:=Bd;have Y:q<s.size:=Bd;have z3:(q:Int)+3<(s.size:Int):=Bd;have z2:(q:Int)+2<(s.size:Int):=Bd;have z1:(q:Int)+1<(s.size:Int):=Bd;have Z:Hid (Et (Rf.hndTo s.data.toList i (k+1))=Et (Rf.hndTo s.data.toList i k)++[.int .i64 (s[q].toNat:Int),.int .i64 (s[q+1].toNat:Int),.int .i64 (s[q+2].toNat:Int),.int .i64 (s[q+3].toNat:Int)]):=by
    unfold Hid;rw[Rf.hndTo,Baw,N];unfold Rf.hndAt;have a1:Rf.at' s.data.toList ((q:Int)+1)=_:=Uv (i:=q+1) V;have a2:Rf.at' s.data.toList ((q:Int)+2)=_:=Uv (i:=q+2) Q;have a3:Rf.at' s.data.toList ((q:Int)+3)=_:=Uv (i:=q+3) O;rw[Uv Y,a1,a2,a3]
   have b0:IntKind.i64.wrap ((q:Int)+1)=(q:Int)+1:=Eg _ Bd Bd;have b1:IntKind.i64.wrap ((q:Int)+2)=(q:Int)+2:=Eg _ Bd Bd;have b2:IntKind.i64.wrap ((q:Int)+3)=(q:Int)+3:=Eg _ Bd Bd;have b3:∀c:UInt8,IntKind.i64.wrap (c.toNat:Int)=(c.toNat:Int):=fun c=>Eg _ Bd (by have:=c.toNat_lt;omega);have y1:0<=(q:Int)+1:=Bd;have y2:0<=(q:Int)+2:=Bd;have y3:0<=(q:Int)+3:=Bd;have e1:((q:Int)+1).toNat=q+1:=Bd;have e2:((q:Int)+2).toNat=q+2:=Bd;have e3:((q:Int)+3).toNat=q+3:=Bd;go_wp2
   go_region_held3 (fun _=>True) (exact trivial) ((refine Bbz Hd _ _ _ Hd w.heap.size 164 D _ 4 32 underlying106 F G I J rfl Bd _ _ _ Hd ((b.alloc _).drew) ⟨wr.heap.size,0,none⟩ 1 1 [.int .i64 (s[q].toNat:Int),.int .i64 (s[q+1].toNat:Int),.int .i64 (s[q+2].toNat:Int),.int .i64 (s[q+3].toNat:Int)] Hd Hd (Dv wr _ _ _ rfl) (by simp[Value.oneCell']) Mc Bd Fm ?_;intro v' w2 B C))
   all_goals
    have a0:w2.ownsRow w.heap.size 164 4 v' (k+1) (Et (Rf.hndTo s.data.toList i (k+1))):=by rw[Ba Z];exact B
    have a4:=((l.alloc L _).drew).grown C Fm (fun j hj=>(b.lt j hj).1);clear C B;go_wp2;go_roundw
    case rel=>exact⟨k+1,Bd,Lt,a0,a4⟩
    case measure=>simp[intOf];omega
  obtain rfl:k=r.toNat:=Bd;obtain⟨va,vc,rfl⟩:=Bg b;go_wp2;go_ret2;exact⟨_,_,_,rfl,b,l⟩
def Bpv(s:ByteArray)(i p:Int)(w:TW)(f:s.size<=maxLen)(a0:0<=i)(a1:i<=50000)(j:Hid (Rf.cnt s.data.toList (i+2) 0 4=p))(h:p<0):Calls prog 138 #[.string s,.i i] w fun e l => ∃b c m q t v z A B C D F G I J K L N,e=.r (.tuple #[.agg #[.i b,.i c,.s m q t,.i v,.i z,.i A,.i B,.string C,.s D F G,.s I J K,.i L,.i N],.i (-1)])/\Bl w l:=by
 have O:∃b c,Rf.at' s.data.toList i=b/\Rf.at' s.data.toList (i+1)=c:=⟨_,_,rfl,rfl⟩;obtain⟨b,c,Q,V⟩:=O;have Y:=Bc Q;have Z:=Bc V;go_in;go_wp2_with fail;refine(Gy s i _ f).mono ?_;rw[Ba Y];rintro e g ⟨rfl,rfl⟩;go_wp2_with fail;refine(Gy s (i+1) _ f).mono ?_;rw[Ba Z];rintro e g ⟨rfl,rfl⟩;go_wp2_with fail;refine(Ej s (i+2) 0 4 _ f).mono ?_;rw[Ba j];rintro e g ⟨rfl,rfl⟩;go_wp2_with fail;refine tb (.tuple #[.agg #[.i b,.i c,.s none 0 0,.i 0,.i 0,.i 0,.i 0,.string ⟨#[]⟩,.s none 0 0,.s none 0 0,.i 0,.i 0],.i (-1)]) (by simp[results,By8,go_sem]) ?_;exact⟨b,c,_,_,_,_,_,_,_,_,_,_,_,_,_,_,_,_,rfl,(QN _).alloc Fr _⟩
def Yp(s:ByteArray)(i p l h n:Int)(w:TW)(b:s.size<=maxLen)(c6:0<=i)(c7:i<=50000)(HP:Hid (Rf.cnt s.data.toList (i+2) 0 4=p))(HL:Hid (Rf.cnt s.data.toList (i+3+2*p+2) 0 8=l))(HH:Hid (Rf.cnt s.data.toList (i+3+2*p+3) 0 8=h))(HN:Hid (Rf.cnt s.data.toList (i+3+2*p+4) 1 120=n))(d0:0<=p)(d1:p<=4)(g:l<0\/(0<=l/\h<0)\/(0<=l/\0<=h/\n<0)\/(0<=l/\0<=h/\0<=n/\n<=120/\(s.size:Int)<i+3+2*p+5+n)):Calls prog 138 #[.string s,.i i] w fun e w' => ∃j m c n2 f x3 x4 x5 x6 sb a8 n8 c8 a9 n9 c9 a4 a5,e=.r (.tuple #[.agg #[.i j,.i m,.s c n2 f,.i x3,.i x4,.i x5,.i x6,.string sb,.s a8 n8 c8,.s a9 n9 c9,.i a4,.i a5],.i (-1)])/\Bl w w':=by
 have G1:∃j m F z A,Rf.at' s.data.toList i=j/\Rf.at' s.data.toList (i+1)=m/\Rf.tys s.data.toList (i+3) p.toNat=F/\Rf.at' s.data.toList (i+3+2*p)=z/\Rf.at' s.data.toList (i+3+2*p+1)=A:=⟨_,_,_,_,_,rfl,rfl,rfl,rfl,rfl⟩;obtain⟨j,m,F,z,A,a6,a7,b0,b3,b4⟩:=G1;have b5:=Bc a6;have b6:=Bc a7;have b7:=Bc b0;have b8:=Bc b3;have b9:=Bc b4;go_in;go_wp2_with fail;refine(Gy s i _ b).mono ?_;rw[Ba b5];rintro e q ⟨rfl,rfl⟩;go_wp2_with fail;refine(Gy s (i+1) _ b).mono ?_;rw[Ba b6];rintro e q ⟨rfl,rfl⟩;go_wp2_with fail;refine(Ej s (i+2) 0 4 _ b).mono ?_;rw[Ba HP];rintro e q ⟨rfl,rfl⟩;go_wp2_with fail;refine(Lj s (i+3) p _ b Bd Bd Bd Bd).mono ?_;rw[Ba b7];rintro e w1 ⟨c,f,rfl,T1,B⟩;have t:=stay B (Bv w _ _);have C1:=stay B (Cb w _ _);have G:=(Bx w _ _).trans (B.mono Fm);have s1:=G.size;have C:=Bb t 2;have f2:=Bj t 2;simp at C;go_wp2_with fail;refine(Lj s (i+3+2*p) 1 _ b Bd Bd Bd Bd).mono ?_;rintro e w2 ⟨ar,cr,rfl,TR,v⟩;have D:=stay v (Bq (i:=2) t (.s c p.toNat f));have I:=stay v (D7 C1 (p:=.a (w.heap.size+1) 2) Fr (.s c p.toNat f));simp at D;have J:=(G.setCell (p:=.a (w.heap.size+1) 2) Fr (.s c p.toNat f)).trans (v.mono Fm);have T2:=((T1.mono (b':=w.heap.size) Fm).kp (Kp.set (i:=2) t (.s c p.toNat f)) Ck).kp (Kp.of_below (e:=none) v) Ck;have s2:=J.size;obtain⟨gr,c0,d2,c1,K⟩:=Cf TR (by rw[Oy];decide);have L:=K 0 (by simp[Bu,Rf.tys]);have N:=K 1 (by simp[Bu,Rf.tys]);simp[Bu,Rf.tys]at L N;rw[Ba b8]at L;rw[Ba b9]at N;have d3:gr≠w.heap.size+1:=by
  have hh:=Pk t;simp at c1;omega
 subst c0;obtain⟨k0,k1,C,k3,k4,k5,k6,k7,k8,k9,c3,c4⟩:=Ia D;obtain⟨f0,f1,f2,f3,f4,f5,f6,f7,f8,f9,d4,d5⟩:=U8 D;obtain⟨O,Q,V,Y,Z,z5,z6,z7,z8,z9,a0,a1⟩:=Ia I;obtain⟨g0,g1,g2,g3,g4,g5,g6,g7,g8,g9,g10,d6⟩:=U8 I;simp at k0 k1 C k3 k4 k5 k6 k7 k8 k9 c3 c4 O Q V Y Z z5 z6 z7 z8 z9 a0 a1;go_wp2_with fail;refine(Ej s (i+3+2*p+2) 0 8 _ b).mono ?_;rw[Ba HL];rintro e q ⟨rfl,rfl⟩;go_wp2_with fail;refine(Ej s (i+3+2*p+3) 0 8 _ b).mono ?_;rw[Ba HH];rintro e q ⟨rfl,rfl⟩;go_wp2_with fail;refine(Ej s (i+3+2*p+4) 1 120 _ b).mono ?_;rw[Ba HN];rintro e q ⟨rfl,rfl⟩;rcases g with g|⟨a3,g⟩|⟨a3,c5,g⟩|⟨a3,c5,d7,d8,g⟩
 all_goals
  go_wp2_with fail;refine tb (.tuple #[.agg #[.i j,.i m,.s c p.toNat f,.i z,.i A,.i l,.i h,.string ⟨#[]⟩,.s none 0 0,.s none 0 0,.i 0,.i 0],.i (-1)]) (by simp[results,By8,go_sem,O,Q,V,Y,Z,z5,z6,z7,z8,z9,a0,a1]) ?_;exact⟨_,_,_,_,_,_,_,_,_,_,_,_,_,_,_,_,_,_,rfl,by repeat (first|refine Bvq ?_ Fr _|exact J)⟩
def Bpu(s:ByteArray)(i p l h:Int)(j n:Nat)(hq:List Rd.Hnd×Int)(w:TW)(b:s.size<=maxLen)(d2:0<=i)(d3:i<=50000)(HP:Hid (Rf.cnt s.data.toList (i+2) 0 4=p))(hj:i+3+2*p=(j:Int))(HL:Hid (Rf.cnt s.data.toList ((j:Int)+2) 0 8=l))(HH:Hid (Rf.cnt s.data.toList ((j:Int)+3) 0 8=h))(HN:Hid (Rf.cnt s.data.toList ((j:Int)+4) 1 120=(n:Int)))(d4:0<=p)(d5:p<=4)(d6:0<=l)(d7:l<=8)(d8:0<=h)(d9:h<=8)(h0:n<=120)(h1:j+5+n<=s.size)(HQ:Hid (Rf.hnds s.data.toList ((j:Int)+5+(n:Int))=hq))(h2:hq.2<0):Calls prog 138 #[.string s,.i i] w fun e w' => ∃m q f n2 g x3 x4 x5 x6 sb a8 n8 c8 a9 n9 c9 a7 b0,e=.r (.tuple #[.agg #[.i m,.i q,.s f n2 g,.i x3,.i x4,.i x5,.i x6,.string sb,.s a8 n8 c8,.s a9 n9 c9,.i a7,.i b0],.i (-1)])/\Bl w w':=by
 have G1:∃m q ps Y Z,Rf.at' s.data.toList i=m/\Rf.at' s.data.toList (i+1)=q/\Rf.tys s.data.toList (i+3) p.toNat=ps/\Rf.at' s.data.toList (j:Int)=Y/\Rf.at' s.data.toList ((j:Int)+1)=Z:=⟨_,_,_,_,_,rfl,rfl,rfl,rfl,rfl⟩;obtain⟨m,q,ps,Y,Z,b4,b5,b6,b7,b8⟩:=G1;have b9:=Bc b4;have c0:=Bc b5;have c1:=Bc b6;have c3:=Bc b7;have c4:=Bc b8;go_in;go_wp2_with fail;refine(Gy s i _ b).mono ?_;rw[Ba b9];rintro e t ⟨rfl,rfl⟩;go_wp2_with fail;refine(Gy s (i+1) _ b).mono ?_;rw[Ba c0];rintro e t ⟨rfl,rfl⟩;go_wp2_with fail;refine(Ej s (i+2) 0 4 _ b).mono ?_;rw[Ba HP];rintro e t ⟨rfl,rfl⟩;go_wp2_with fail;refine(Lj s (i+3) p _ b Bd Bd Bd Bd).mono ?_;rw[Ba c1];rintro e w1 ⟨f,g,rfl,T1,b1⟩;have v:=stay b1 (Bv w _ _);have C1:=stay b1 (Cb w _ _);have a3:=(Bx w _ _).trans (b1.mono Fm);have s1:=a3.size;have z:=Bb v 2;have f2:=Bj v 2;simp at z;go_wp2_with fail;refine(Lj s (j:Int) 1 _ b Bd Bd Bd Bd).mono ?_;rintro e w2 ⟨ar,cr,rfl,TR,A⟩;have c:=stay A (Bq (i:=2) v (.s f p.toNat g));have C2:=stay A (D7 C1 (p:=.a (w.heap.size+1) 2) Fr (.s f p.toNat g));simp at c;have a4:=(a3.setCell (p:=.a (w.heap.size+1) 2) Fr (.s f p.toNat g)).trans (A.mono Fm);have T2:=((T1.mono (b':=w.heap.size) Fm).kp (Kp.set (i:=2) v (.s f p.toNat g)) Ck).kp (Kp.of_below (e:=none) A) Ck;have s2:=a4.size;obtain⟨gr,c5,h3,c6,a5⟩:=Cf TR (by rw[Oy];decide);have r0:=a5 0 (by simp[Bu,Rf.tys]);have r1:=a5 1 (by simp[Bu,Rf.tys]);simp[Bu,Rf.tys]at r0 r1;rw[Ba c3]at r0;rw[Ba c4]at r1;have h4:gr≠w.heap.size+1:=by
  have hh:=Pk v;simp at c6;omega
 subst c5;obtain⟨k0,k1,z,k3,k4,k5,k6,k7,k8,k9,a0,a1⟩:=Ia c;obtain⟨f0,f1,f2,f3,f4,f5,f6,f7,f8,f9,c7,d0⟩:=U8 c;obtain⟨B,C,D,F,G,I,J,K,L,N,O,Q⟩:=Ia C2;obtain⟨g0,g1,g2,g3,g4,g5,g6,g7,g8,g9,g10,d1⟩:=U8 C2;simp at k0 k1 z k3 k4 k5 k6 k7 k8 k9 a0 a1 B C D F G I J K L N O Q;go_wp2_with fail;refine(Ej s ((j:Int)+2) 0 8 _ b).mono ?_;rw[Ba HL];rintro e t ⟨rfl,rfl⟩;go_wp2_with fail;refine(Ej s ((j:Int)+3) 0 8 _ b).mono ?_;rw[Ba HH];rintro e t ⟨rfl,rfl⟩;go_wp2_with fail;refine(Ej s ((j:Int)+4) 1 120 _ b).mono ?_;rw[Ba HN];rintro e t ⟨rfl,rfl⟩;have h5:j+5<=s.size:=Bd;have h6:(j:Int)+5+(n:Int)<=(s.size:Int):=Bd;go_wp2_with fail;refine(Bd1 s ((j:Int)+5+(n:Int)) _ b Bd Bd).mono ?_;rw[Ba HQ];rintro e w3 ⟨a8,n8,c8,rfl,T8,V⟩;have B3:=stay V (Bq (i:=7) (Bq (i:=6) (Bq (i:=5) (Bq (i:=4) (Bq (i:=3) c _) _) _) _) _);have C3:=stay V (D7 (D7 (D7 (D7 (D7 C2 (p:=.a (w.heap.size+1) 3) Fr _) (p:=.a (w.heap.size+1) 4) Fr _) (p:=.a (w.heap.size+1) 5) Fr _) (p:=.a (w.heap.size+1) 6) Fr _) (p:=.a (w.heap.size+1) 7) Fr _);simp at B3;have a6:=(((((a4.setCell (p:=.a (w.heap.size+1) 3) Fr _).setCell (p:=.a (w.heap.size+1) 4) Fr _).setCell (p:=.a (w.heap.size+1) 5) Fr _).setCell (p:=.a (w.heap.size+1) 6) Fr _).setCell (p:=.a (w.heap.size+1) 7) Fr _).trans (V.mono Fm);have T3:=(T2.kp (((((Kp.set (i:=3) c _).trans (Kp.set (i:=4) (Bq (i:=3) c _) _)).trans (Kp.set (i:=5) (Bq (i:=4) (Bq (i:=3) c _) _) _)).trans (Kp.set (i:=6) (Bq (i:=5) (Bq (i:=4) (Bq (i:=3) c _) _) _) _)).trans (Kp.set (i:=7) (Bq (i:=6) (Bq (i:=5) (Bq (i:=4) (Bq (i:=3) c _) _) _) _) _)) Ck).kp (Kp.of_below (e:=none) V) Ck;have s3:=a6.size;have h7:=T8.mono (b':=w.heap.size) Fm;obtain⟨k0,k1,z,k3,k4,k5,k6,k7,k8,k9,a0,a1⟩:=Ia B3;obtain⟨f0,f1,f2,f3,f4,f5,f6,f7,f8,f9,c7,d0⟩:=U8 B3;obtain⟨B,C,D,F,G,I,J,K,L,N,O,Q⟩:=Ia C3;obtain⟨g0,g1,g2,g3,g4,g5,g6,g7,g8,g9,g10,d1⟩:=U8 C3;simp at k0 k1 z k3 k4 k5 k6 k7 k8 k9 a0 a1 B C D F G I J K L N O Q;go_wp2_with fail;refine tb (.tuple #[.agg #[.i m,.i q,.s f p.toNat g,.i Y,.i Z,.i l,.i h,.string (s.extract (j+5) (j+5+n)),.s none 0 0,.s none 0 0,.i 0,.i 0],.i (-1)]) (by simp[results,By8,go_sem,B,C,D,F,G,I,J,K,L,N,O,Q]) ?_;exact⟨_,_,_,_,_,_,_,_,_,_,_,_,_,_,_,_,_,_,rfl,by repeat (first|refine Bvq ?_ Fr _|exact a6)⟩
def Bq2(s:ByteArray)(a b:Nat)(e:a<=b)(c:b<s.size):(s.extract a (b+1)).data.toList=(s.extract a b).data.toList++[s[b]]:=by
 rw[B0j,B0j,B0v,B0v,Bz1,Bz1];rw[show b+1-a=(b-a)+1 by omega,Bvs (by simp;have:s.data.size=s.size:=rfl;omega)]
 congr 1
 simp;rw[show (s[b]:UInt8)=s.data[b]'c from rfl]
 congr 1
 omega
def Bhm(s:ByteArray)(j n:Nat)(h:j+5+n<=s.size):(s.extract (j+5) (j+5+n)).data.toList.map (fun c=>(c.toNat:Int))=Rf.codeTo s.data.toList ((j:Int)+5) n:=by
 induction n with
 | zero=>simp[Rf.codeTo]
 | succ k ih =>
  have e:(s.extract (j+5) (j+5+(k+1))).data.toList=(s.extract (j+5) (j+5+k)).data.toList++[s[j+5+k]'Bd]:=by
   exact Bq2 s (j+5) (j+5+k) Bd Bd
  rw[e,Bvx,ih Bd,Rf.codeTo];have a:Rf.at' s.data.toList ((j:Int)+5+(k:Int))=_:=Uv (i:=j+5+k) Bd;rw[a];rfl
def Bpt(s:ByteArray)(i p l h G I J K:Int)(ps:TP)(j n:Nat)(c:List Rd.Hnd×Int)(f:List Rd.Mp×Int)(w:TW)(g:s.size<=maxLen)(i1:0<=i)(i2:i<=50000)(HP:Hid (Rf.cnt s.data.toList (i+2) 0 4=p))(hj:i+3+2*p=(j:Int))(HL:Hid (Rf.cnt s.data.toList ((j:Int)+2) 0 8=l))(HH:Hid (Rf.cnt s.data.toList ((j:Int)+3) 0 8=h))(HN:Hid (Rf.cnt s.data.toList ((j:Int)+4) 1 120=(n:Int)))(i3:0<=p)(i4:p<=4)(c5:0<=l)(c6:l<=8)(c7:0<=h)(d0:h<=8)(i5:n<=120)(d1:j+5+n<=s.size)(HQ:Hid (Rf.hnds s.data.toList ((j:Int)+5+(n:Int))=c))(d2:0<=c.2)(i6:c.2<=100000)(HM:Hid (Rf.mps s.data.toList c.2 l h=f)) (d3:Hid (Rf.at' s.data.toList i=G))(d4:Hid (Rf.at' s.data.toList (i+1)=I))(d5:Hid (Rf.tys s.data.toList (i+3) p.toNat=ps))(d6:Hid (Rf.at' s.data.toList (j:Int)=J))(d7:Hid (Rf.at' s.data.toList ((j:Int)+1)=K)):Calls prog 138 #[.string s,.i i] w fun e w' => ∃m n2 q sb t v z A B C,e=.r (.tuple #[.agg #[.i G,.i I,.s m n2 q,.i J,.i K,.i l,.i h,.string sb,.s t v z,.s A B C,.i c.2,.i f.2],.i f.2])/\Sx w' w.heap.size ⟨⟨G,I,ps,(J,K),l,h,Rf.codeTo s.data.toList ((j:Int)+5) n,c.1,f.1⟩,c.2,f.2⟩ ⟨.s m n2 q,sb,.s t v z,.s A B C⟩/\Bl w w':=by
 go_in;go_wp2_with fail;refine(Gy s i _ g).mono ?_;rw[Ba d3];rintro e w0 ⟨rfl,rfl⟩;go_wp2_with fail;refine(Gy s (i+1) _ g).mono ?_;rw[Ba d4];rintro e w0 ⟨rfl,rfl⟩;go_wp2_with fail;refine(Ej s (i+2) 0 4 _ g).mono ?_;rw[Ba HP];rintro e w0 ⟨rfl,rfl⟩;go_wp2_with fail;refine(Lj s (i+3) p _ g Bd Bd Bd Bd).mono ?_;rw[Ba d5];rintro e w1 ⟨m,q,rfl,T1,b1⟩;have B1:=stay b1 (Bv w _ _);have C1:=stay b1 (Cb w _ _);have a6:=(Bx w _ _).trans (b1.mono Fm);have s1:=a6.size;have F:=Bb B1 2;have f2:=Bj B1 2;simp at F;go_wp2_with fail;refine(Lj s (j:Int) 1 _ g Bd Bd Bd Bd).mono ?_;rintro e w2 ⟨ar,cr,rfl,TR,b2⟩;have D:=stay b2 (Bq (i:=2) B1 (.s m p.toNat q));have C2:=stay b2 (D7 C1 (p:=.a (w.heap.size+1) 2) Fr (.s m p.toNat q));simp at D;have a7:=(a6.setCell (p:=.a (w.heap.size+1) 2) Fr (.s m p.toNat q)).trans (b2.mono Fm);have T2:=((T1.mono (b':=w.heap.size) Fm).kp (Kp.set (i:=2) B1 (.s m p.toNat q)) Ck).kp (Kp.of_below (e:=none) b2) Ck;have s2:=a7.size;obtain⟨gr,d8,i7,d9,b0⟩:=Cf TR (by rw[Oy];decide);have r0:=b0 0 (by simp[Bu,Rf.tys]);have r1:=b0 1 (by simp[Bu,Rf.tys]);simp[Bu,Rf.tys]at r0 r1;rw[Ba d6]at r0;rw[Ba d7]at r1;have i8:gr≠w.heap.size+1:=by
  have hh:=Pk B1;simp at d9;omega
 subst d8;obtain⟨k0,k1,F,k3,k4,k5,k6,k7,k8,k9,a3,a4⟩:=Ia D;obtain⟨f0,f1,f2,f3,f4,f5,f6,f7,f8,f9,b5,b6⟩:=U8 D;obtain⟨L,N,O,Q,V,Y,Z,z7,z8,z9,a0,a1⟩:=Ia C2;obtain⟨g0,g1,g2,g3,g4,g5,g6,g7,g8,g9,g10,b7⟩:=U8 C2;simp at k0 k1 F k3 k4 k5 k6 k7 k8 k9 a3 a4 L N O Q V Y Z z7 z8 z9 a0 a1;go_wp2_with fail;refine(Ej s ((j:Int)+2) 0 8 _ g).mono ?_;rw[Ba HL];rintro e w0 ⟨rfl,rfl⟩;go_wp2_with fail;refine(Ej s ((j:Int)+3) 0 8 _ g).mono ?_;rw[Ba HH];rintro e w0 ⟨rfl,rfl⟩;go_wp2_with fail;refine(Ej s ((j:Int)+4) 1 120 _ g).mono ?_;rw[Ba HN];rintro e w0 ⟨rfl,rfl⟩;have i9:j+5<=s.size:=Bd;have j0:(j:Int)+5+(n:Int)<=(s.size:Int):=Bd;go_wp2_with fail;refine(Bd1 s ((j:Int)+5+(n:Int)) _ g Bd Bd).mono ?_;rw[Ba HQ];rintro e w3 ⟨t,v,z,rfl,T8,b3⟩;have B3:=stay b3 (Bq (i:=7) (Bq (i:=6) (Bq (i:=5) (Bq (i:=4) (Bq (i:=3) D _) _) _) _) _);have C3:=stay b3 (D7 (D7 (D7 (D7 (D7 C2 (p:=.a (w.heap.size+1) 3) Fr _) (p:=.a (w.heap.size+1) 4) Fr _) (p:=.a (w.heap.size+1) 5) Fr _) (p:=.a (w.heap.size+1) 6) Fr _) (p:=.a (w.heap.size+1) 7) Fr _);simp at B3;have b8:=(((((a7.setCell (p:=.a (w.heap.size+1) 3) Fr _).setCell (p:=.a (w.heap.size+1) 4) Fr _).setCell (p:=.a (w.heap.size+1) 5) Fr _).setCell (p:=.a (w.heap.size+1) 6) Fr _).setCell (p:=.a (w.heap.size+1) 7) Fr _).trans (b3.mono Fm);have T3:=(T2.kp (((((Kp.set (i:=3) D _).trans (Kp.set (i:=4) (Bq (i:=3) D _) _)).trans (Kp.set (i:=5) (Bq (i:=4) (Bq (i:=3) D _) _) _)).trans (Kp.set (i:=6) (Bq (i:=5) (Bq (i:=4) (Bq (i:=3) D _) _) _) _)).trans (Kp.set (i:=7) (Bq (i:=6) (Bq (i:=5) (Bq (i:=4) (Bq (i:=3) D _) _) _) _) _)) Ck).kp (Kp.of_below (e:=none) b3) Ck;have s3:=b8.size;have h0:=T8.mono (b':=w.heap.size) Fm;obtain⟨k0,k1,F,k3,k4,k5,k6,k7,k8,k9,a3,a4⟩:=Ia B3;obtain⟨f0,f1,f2,f3,f4,f5,f6,f7,f8,f9,b5,b6⟩:=U8 B3;obtain⟨L,N,O,Q,V,Y,Z,z7,z8,z9,a0,a1⟩:=Ia C3;obtain⟨g0,g1,g2,g3,g4,g5,g6,g7,g8,g9,g10,b7⟩:=U8 C3;simp at k0 k1 F k3 k4 k5 k6 k7 k8 k9 a3 a4 L N O Q V Y Z z7 z8 z9 a0 a1;go_wp2_with fail;refine(Bmv s c.2 l h _ g d2 Bd c5 c6 c7 d0).mono ?_;rw[Ba HM];rintro e w4 ⟨A,B,C,ml,rfl,h1,T9,b4⟩;have B4:=stay b4 B3;have C4:=stay b4 C3;have h2:=b8.trans (b4.mono s3);have T4:=T3.kp (Kp.of_below (e:=none) b4) Ck;have h3:=h0.kp (Kp.of_below (e:=none) b4) Ck;have h4:=T9.mono (b':=w.heap.size) s3;have h5:=Bc h1;obtain⟨k0,k1,F,k3,k4,k5,k6,k7,k8,k9,a3,a4⟩:=Ia B4;obtain⟨f0,f1,f2,f3,f4,f5,f6,f7,f8,f9,b5,b6⟩:=U8 B4;obtain⟨L,N,O,Q,V,Y,Z,z7,z8,z9,a0,a1⟩:=Ia C4;obtain⟨g0,g1,g2,g3,g4,g5,g6,g7,g8,g9,g10,b7⟩:=U8 C4;simp at k0 k1 F k3 k4 k5 k6 k7 k8 k9 a3 a4 L N O Q V Y Z z7 z8 z9 a0 a1;go_wp2_with fail;refine tb (.tuple #[.agg #[.i G,.i I,.s m p.toNat q,.i J,.i K,.i l,.i h,.string (s.extract (j+5) (j+5+n)),.s t v z,.s A B C,.i c.2,.i f.2],.i f.2]) (by simp[results,By8,go_sem,L,N,O,Q,V,Y,Z,z7,z8,z9,a0,a1]) ?_;have F0:=Kp.set (b:=w.heap.size) (i:=8) B4 (.s t v z);have P0:=Bq (i:=8) B4 (.s t v z);have R0:=D7 C4 (p:=.a (w.heap.size+1) 8) Fr (.s t v z);have F1:=F0.trans (Kp.set (i:=9) P0 (.s A B C));have P1:=Bq (i:=9) P0 (.s A B C);have R1:=D7 R0 (p:=.a (w.heap.size+1) 9) Fr (.s A B C);have F2:=F1.trans (Kp.set (i:=10) P1 (.i c.2));have P2:=Bq (i:=10) P1 (.i c.2);have R2:=D7 R1 (p:=.a (w.heap.size+1) 10) Fr (.i c.2);have F3:=F2.trans (Kp.set (i:=11) P2 (.i f.2));have P3:=Bq (i:=11) P2 (.i f.2);have R3:=D7 R2 (p:=.a (w.heap.size+1) 11) Fr (.i f.2);have F4:=F3.trans (Kp.set (i:=0) R3 (.i G));have R4:=Bq (i:=0) R3 (.i G);have F5:=F4.trans (Kp.set (i:=1) R4 (.i I));have R5:=Bq (i:=1) R4 (.i I);have F6:=F5.trans (Kp.set (i:=2) R5 (.s m p.toNat q));have R6:=Bq (i:=2) R5 (.s m p.toNat q);have F7:=F6.trans (Kp.set (i:=3) R6 (.i J));have R7:=Bq (i:=3) R6 (.i J);have F8:=F7.trans (Kp.set (i:=4) R7 (.i K));have R8:=Bq (i:=4) R7 (.i K);have F9:=F8.trans (Kp.set (i:=5) R8 (.i l));have R9:=Bq (i:=5) R8 (.i l);have h6:=F9.trans (Kp.set (i:=6) R9 (.i h));have b9:=Bq (i:=6) R9 (.i h);have h7:=h6.trans (Kp.set (i:=7) b9 (.string (s.extract (j+5) (j+5+n))));have c0:=Bq (i:=7) b9 (.string (s.extract (j+5) (j+5+n)));have h8:=h7.trans (Kp.set (i:=8) c0 (.s t v z));have c1:=Bq (i:=8) c0 (.s t v z);have h9:=h8.trans (Kp.set (i:=9) c1 (.s A B C));have c3:=Bq (i:=9) c1 (.s A B C);have i0:=h9.trans (Kp.set (i:=10) c3 (.i c.2));have c4:=Bq (i:=10) c3 (.i c.2);have a5:=i0.trans (Kp.set (i:=11) c4 (.i f.2));have j1:=Bq (i:=11) c4 (.i f.2);refine⟨_,_,_,_,_,_,_,_,_,_,rfl,⟨T4.kp a5 Ck,Bhm s j n d1,h3.kp a5 Ck,ml,Ba h5,h4.kp a5 Ck Ck⟩,?_⟩
 repeat (first|refine Bvq ?_ Fr _|exact h2)
def Wm (s:TB)(i:Int)(w:TW)(e:Ending)(w':TW):Prop :=
 ∃x0 x1 a2 n2 c2 x3 x4 x5 x6 sb a8 n8 c8 a9 n9 c9 x10 x11,e=.returned (.tuple #[.agg #[.int .i64 x0,.int .i64 x1,.slice a2 n2 c2,.int .i64 x3,.int .i64 x4,.int .i64 x5,.int .i64 x6,.string sb,.slice a8 n8 c8,.slice a9 n9 c9,.int .i64 x10,.int .i64 x11],.int .i64 (Rf.mth s i).2]) /\
    (0<=(Rf.mth s i).2->[.int .i64 x0,.int .i64 x1,.slice a2 n2 c2,.int .i64 x3,.int .i64 x4,.int .i64 x5,.int .i64 x6,.string sb,.slice a8 n8 c8,.slice a9 n9 c9,.int .i64 x10,.int .i64 x11]=Nr (Rf.mth s i).1 ⟨.slice a2 n2 c2,sb,.slice a8 n8 c8,.slice a9 n9 c9⟩ /\
     Sx w' w.heap.size (Rf.mth s i).1 ⟨.slice a2 n2 c2,sb,.slice a8 n8 c8,.slice a9 n9 c9⟩)/\Below w.heap.size w w'
def Bf7(s:ByteArray)(i:Int)(w:TW)(hs:s.size<=15000)(g:0<=i)(l:i<=50000):Calls prog 138 #[.string s,.i i] w fun e m=>Wm s.data.toList i w e m:=by
 have q:s.size<=maxLen:=Mc;have Q:s.data.toList.length=s.size:=Fr;have fail:(Rf.mth s.data.toList i).2 = -1->(Calls prog 138 #[.string s,.i i] w fun e m =>
   ∃V Y C D F Z x4 x5 x6 G I J K L N O a0 a1,e=.r (.tuple #[.agg #[.i V,.i Y,.s C D F,.i Z,.i x4,.i x5,.i x6,.string G,.s I J K,.s L N O,.i a0,.i a1],.i (-1)])/\Bl w m)->Calls prog 138 #[.string s,.i i] w fun e m=>Wm s.data.toList i w e m:=by
  intro hm hc;refine hc.mono ?_;rintro e m ⟨V,Y,C,D,F,Z,x4,x5,x6,G,I,J,K,L,N,O,a0,a1,rfl,hb⟩;refine⟨V,Y,C,D,F,Z,x4,x5,x6,G,I,J,K,L,N,O,a0,a1,by rw[hm],fun h=>?_,hb⟩;rw[hm]at h;exact absurd h Ck
 have b1:=Rf.cnt_bd s.data.toList (i+2) 0 4 Bd;by_cases c:Rf.cnt s.data.toList (i+2) 0 4<0;·refine fail ?_ (Bpv s i _ w q g l (Bc rfl) c);unfold Rf.mth;simp only;rw[Sp c]
 generalize b:Rf.cnt s.data.toList (i+2) 0 4=p at *;have a5:=Rf.cnt_bd s.data.toList (i+3+2*p+2) 0 8 Bd;have a6:=Rf.cnt_bd s.data.toList (i+3+2*p+3) 0 8 Bd;have a7:=Rf.cnt_bd s.data.toList (i+3+2*p+4) 1 120 Bd;by_cases f:Rf.cnt s.data.toList (i+3+2*p+2) 0 8<0;·refine fail ?_ (Yp s i p _ _ _ w q g l (Bc b) (Bc rfl) (Bc rfl) (Bc rfl) Bd Bd (.inl f));unfold Rf.mth;simp only;rw[b,Pf c,Sp f]
 by_cases t:Rf.cnt s.data.toList (i+3+2*p+3) 0 8<0;·refine fail ?_ (Yp s i p _ _ _ w q g l (Bc b) (Bc rfl) (Bc rfl) (Bc rfl) Bd Bd (.inr (.inl ⟨Bd,t⟩)));unfold Rf.mth;simp only;rw[b,Pf c,Pf f,Sp t]
 by_cases v:Rf.cnt s.data.toList (i+3+2*p+4) 1 120<0;·refine fail ?_ (Yp s i p _ _ _ w q g l (Bc b) (Bc rfl) (Bc rfl) (Bc rfl) Bd Bd (.inr (.inr (.inl ⟨Bd,Bd,v⟩))));unfold Rf.mth;simp only;rw[b,Pf c,Pf f,Pf t,Sp v]
 by_cases z:(s.size:Int)<i+3+2*p+5+Rf.cnt s.data.toList (i+3+2*p+4) 1 120;·refine fail ?_ (Yp s i p _ _ _ w q g l (Bc b) (Bc rfl) (Bc rfl) (Bc rfl) Bd Bd (.inr (.inr (.inr ⟨Bd,Bd,Bd,Bd,z⟩))));unfold Rf.mth;simp only;rw[b,Pf c,Pf f,Pf t,Pf v,Q,Sp z]
 obtain⟨j,A⟩:=Bvk (show 0<=i+3+2*p by omega);obtain⟨n,B⟩:=Bvk (show 0<=Rf.cnt s.data.toList (i+3+2*p+4) 1 120 by omega);have b2:=Rf.hnds_le s.data.toList ((j:Int)+5+(n:Int));have a3:n<=120:=Bd;have a4:j+5+n<=s.size:=Bd;rw[A]at f t v B a5 a6 a7 z;by_cases hq:(Rf.hnds s.data.toList ((j:Int)+5+(n:Int))).2<0;·refine fail ?_ (Bpu s i p _ _ j n _ w q g l (Bc b) A (Bc rfl) (Bc rfl) (Bc B) Bd Bd Bd Bd Bd Bd a3 a4 (Bc rfl) hq);unfold Rf.mth;simp only;rw[b,A,Pf c,Pf f,Pf t,Pf v,Q,Pf z,B,Sp hq]
 have hx:Rf.mth s.data.toList i=(⟨⟨Rf.at' s.data.toList i,Rf.at' s.data.toList (i+1),Rf.tys s.data.toList (i+3) p.toNat,(Rf.at' s.data.toList (j:Int),Rf.at' s.data.toList ((j:Int)+1)),Rf.cnt s.data.toList ((j:Int)+2) 0 8,Rf.cnt s.data.toList ((j:Int)+3) 0 8,Rf.codeTo s.data.toList ((j:Int)+5) n,(Rf.hnds s.data.toList ((j:Int)+5+(n:Int))).1,
   (Rf.mps s.data.toList (Rf.hnds s.data.toList ((j:Int)+5+(n:Int))).2 (Rf.cnt s.data.toList ((j:Int)+2) 0 8) (Rf.cnt s.data.toList ((j:Int)+3) 0 8)).1⟩,(Rf.hnds s.data.toList ((j:Int)+5+(n:Int))).2,(Rf.mps s.data.toList (Rf.hnds s.data.toList ((j:Int)+5+(n:Int))).2 (Rf.cnt s.data.toList ((j:Int)+2) 0 8) (Rf.cnt s.data.toList ((j:Int)+3) 0 8)).2⟩,
   (Rf.mps s.data.toList (Rf.hnds s.data.toList ((j:Int)+5+(n:Int))).2 (Rf.cnt s.data.toList ((j:Int)+2) 0 8) (Rf.cnt s.data.toList ((j:Int)+3) 0 8)).2):=by
  unfold Rf.mth;simp only;rw[b,A,Pf c,Pf f,Pf t,Pf v,Q,Pf z,B,Pf hq];rfl
 unfold Wm;rw[hx];refine(Bpt s i p _ _ _ _ _ _ _ j n _ _ w q g l (Bc b) A (Bc rfl) (Bc rfl) (Bc B) Bd Bd Bd Bd Bd Bd a3 a4 (Bc rfl) Bd Bd (Bc rfl) (Bc rfl) (Bc rfl) (Bc rfl) (Bc rfl) (Bc rfl)).mono ?_;rintro e m ⟨C,D,F,G,I,J,K,L,N,O,rfl,b0,hb⟩;exact⟨_,_,_,_,_,_,_,_,_,_,_,_,_,_,_,_,_,_,rfl,fun _=>⟨rfl,b0⟩,hb⟩
def Tryz.infoRClass:(prog.info? 225).map (fun i=>(i.zero,i.size,i.bytes))=some (some (.agg #[.i 0,.s none 0 0]),2,32):=Le
def Tryz.infoRMethod:(prog.info? 109).map (fun i=>(i.zero,i.size,i.bytes))=some (some (.agg #[.i 0,.i 0,.s none 0 0,.i 0,.i 0,.i 0,.i 0,.string ⟨#[]⟩,.s none 0 0,.s none 0 0,.i 0,.i 0]),12,152):=Le
def Rf.given:List Rd.Cls:=[⟨-1,[]⟩,⟨0,[]⟩,⟨1,[]⟩,⟨1,[]⟩,⟨1,[]⟩,⟨1,[]⟩,⟨1,[]⟩]
def V7:List (Rd.Cls × Value):=Rf.given.map fun c=>(c,.slice none 0 0)
def Ber(w:TW):Calls prog 134 #[] w fun e g=>∃a c,e=.r (.s a 7 c)/\Ir g w.heap.size (.s a 7 c) V7/\Bl w g:=by
 obtain⟨q,t,z,A,B⟩:=Bv4 Tryz.infoRClass;go_in;go_wp2
 go_loopw [1] (fun v wr=>∃k:Nat,2<=k/\k<=7/\wr.ownsRow w.heap.size 225 2 v k (Kr (V7.take k))/\lenOf v=k/\Bl w wr)
  (fun v _=>7-lenOf v)
 case atStart=>
  refine⟨2,Bd,Bd,?_,rfl,QN _⟩;exact⟨rfl,.inr ⟨w.heap.size,2,#[.i (-1),.s none 0 0,.i 0,.s none 0 0],rfl,Wf _,Bf w _,Bd,Mc,rfl,rfl⟩⟩
 case round=>
  obtain⟨k,C,Z,b,a0,f⟩:=hrel;obtain⟨va,vc,rfl⟩:=Bg b;have D:=f.size;by_cases F:k<7
  ·generalize G:Kr (V7.take k)=I at b;have J:Hid (Kr (V7.take (k+1))=I++[.i 1,.s none 0 0]):=by
    unfold Hid;rw[<- G]
    match k,C,F with
    | 2,_,_=>rfl
    | 3,_,_=>rfl
    | 4,_,_=>rfl
    | 5,_,_=>rfl
    | 6,_,_=>rfl
   go_wp2_with (at_builtin;refine Bvw _ rfl _ _ 44 rfl w.heap.size 225 q _ 2 32 underlying44 t z A B rfl Ck _ _ _ rfl (b.alloc _) ⟨wr.heap.size,0,none⟩ 1 1 [.i 1,.s none 0 0] rfl rfl ?c1 ?c2 ?c3 ?c4 ?c5 ?_)
   case c1=>exact Dv _ _ _ _ rfl
   case c2=>intro u h;simp at h;rcases h with rfl|rfl<;>rfl
   case c3=>unfold maxLen;omega
   case c4=>omega
   case c5=>simp;omega
   intro v' K l L _;obtain⟨N,O,rfl⟩:=Bg l;have Q:K.ownsRow w.heap.size 225 2 (.s N (k+1) O) (k+1) (Kr (V7.take (k+1))):=by rw[Ba J];exact l
   have V:=(f.alloc D (O10 1 none 0 0)).grown L Fm (fun j Y=>(b.lt j Y).1);go_wp2;go_roundw
   case rel=>exact⟨k+1,Bd,Bd,Q,rfl,V⟩
   case measure=>simp[lenOf];omega
  obtain rfl:k=7:=Bd;go_wp2;go_ret;refine⟨_,_,rfl,⟨b,?_⟩,f⟩;intro p m;have:p.2=.s none 0 0/\p.1.fields=[]:=by
   simp[V7,Rf.given]at m;rcases m with rfl|rfl|rfl<;>exact⟨rfl,rfl⟩
  rw[this.1,this.2];exact Bvl _ _ _ _
def Buc(s:TB)(i L H:Int)(b:0<=L)(c:L<=8)(e:H<=8):(Rf.mps s i L H).2<=i+2200\/(Rf.mps s i L H).2<0:=by
 have f:∀k:Nat,(Rf.rep (Rf.mp s L H) k (i+1)).2<=i+1+34*(k:Int)\/(Rf.rep (Rf.mp s L H) k (i+1)).2<0:=by
  intro k
  induction k with
  | zero=>left;simp[Rf.rep]
  | succ k ih =>
   unfold Rf.rep
   split
   ·right;simp
   split
   ·right;simp
   rename_i g h;have:=(Bsg (s:=s) (L:=L) (H:=H) (i:=(Rf.rep (Rf.mp s L H) k (i+1)).2) Bd e c b).1
   left
   simp only;omega
 unfold Rf.mps
 split
 ·right;simp
 have j:=Rf.cnt_bd s i 0 64 Bd;have:=f (Rf.cnt s i 0 64).toNat;omega
def Bua(s:TB)(i:Int):(Rf.mth s i).2<=(s.length:Int)+2200:=by
 unfold Rf.mth;simp only
 split
 ·simp only;omega
 split
 ·simp only;omega
 split
 ·simp only;omega
 split
 ·simp only;omega
 split
 ·simp only;omega
 split
 ·simp only;omega
 simp only;generalize e:i+3+2*Rf.cnt s (i+2) 0 4=j at *;have b:=Rf.cnt_bd s (j+2) 0 8 Bd;have c:=Rf.cnt_bd s (j+3) 0 8 Bd;have f:=Rf.hnds_le s (j+5+Rf.cnt s (j+4) 1 120);have:=Buc s (Rf.hnds s (j+5+Rf.cnt s (j+4) 1 120)).2 (Rf.cnt s (j+2) 0 8) (Rf.cnt s (j+3) 0 8) Bd b.2 c.2;omega
def Bur(s:TB)(i:Int):(Rf.cls s i).2<=i+10\/(Rf.cls s i).2<0:=by
 unfold Rf.cls
 split
 ·right;simp
 have:=Rf.cnt_bd s (i+1) 0 4 Bd
 left
 simp only;omega
def Nu (s:TB)(w:TW)(e:Ending)(w':TW):Prop :=
 ∃a1 n1 c1 a2 n2 c2,e=.returned (.tuple #[.agg #[.slice a1 n1 c1,.slice a2 n2 c2],.bool ((Rf.fil s).2.2==(s.length:Int))]) /\
  ((Rf.fil s).2.2=(s.length:Int)->∃l1 l2,l1.map Prod.fst=Rf.given++(Rf.fil s).1/\Ir w' w.heap.size (.slice a1 n1 c1) l1/\l2.map Prod.fst=(Rf.fil s).2.1/\Mf w' w.heap.size (.slice a2 n2 c2) l2)/\Below w.heap.size w w'
def Bbb(s:ByteArray)(w:TW)(x y n:Int)(b:s.size<=maxLen)(p:Hid (Rf.at' s.data.toList 0=x))(q:Hid (Rf.at' s.data.toList 1=y))(t:Hid (Rf.cnt s.data.toList 2 0 6=n))(h:(x != 83)=true\/((x != 83)=false/\(y != 77)=true)\/((x != 83)=false/\(y != 77)=false/\n<0)):Calls prog 87 #[.string s] w fun e v=>∃z A B C D F,e=.r (.tuple #[.agg #[.s z A B,.s C D F],.bool false])/\Bl w v:=by
 rcases h with f|⟨f,G⟩|⟨f,G,L⟩
 all_goals
  go_in;go_wp2_with fail;refine(Ber _).mono ?_;rintro e N ⟨I,J,rfl,O,g⟩;have c:=stay g (Bf w _);have i:=((Vm w.heap.size w).alloc (Wf _) _).trans (g.mono Fr);have K:=Pk c;obtain⟨j,l⟩:=cl2 c;obtain⟨Q,V⟩:=fr2 c;simp at j l;have Y:=i.size;go_wp2_with fail;refine(Gy s 0 _ b).mono ?_;rw[Ba p];rintro e m ⟨rfl,rfl⟩;go_wp2_with fail;refine(Gy s 1 _ b).mono ?_;rw[Ba q];rintro e m ⟨rfl,rfl⟩;go_wp2_with fail;refine(Ej s 2 0 6 _ b).mono ?_;rw[Ba t];rintro e m ⟨rfl,rfl⟩;go_wp2_with fail;refine tb (.tuple #[.agg #[.s I 7 J,.s none 0 0],.bool false]) (by simp[results,By1,go_sem,j,l,K]) ?_;exact⟨_,_,_,_,_,_,rfl,by repeat (first|refine Bwu ?_ Fm _|refine Bvq ?_ Fr _|exact i)⟩
def Bms(s:ByteArray)(w:TW)(n:Int)(f4:s.size<=15000)(HX:Hid (Rf.at' s.data.toList 0=83))(HY:Hid (Rf.at' s.data.toList 1=77))(HN:Hid (Rf.cnt s.data.toList 2 0 6=n))(i7:0<=n)(i8:n<=6):Calls prog 87 #[.string s] w fun e w'=>Nu s.data.toList w e w':=by
 have hs:s.size<=maxLen:=Mc;have f5:s.data.toList.length=s.size:=Fr;obtain⟨i0,hi,h2,h3,h4⟩:=Bv4 Tryz.infoRClass;obtain⟨j0,hj,h5,h6,h7⟩:=Bv4 Tryz.infoRMethod
 -- the document's answer, by its stages
 have f6:Rf.fil s.data.toList=(if (Rf.rep (Rf.cls s.data.toList) n.toNat 3).2<0 then ([],[],-1)
   else if Rf.cnt s.data.toList (Rf.rep (Rf.cls s.data.toList) n.toNat 3).2 1 6<0 then ([],[],-1)
   else if (Rf.rep (Rf.mth s.data.toList) (Rf.cnt s.data.toList (Rf.rep (Rf.cls s.data.toList) n.toNat 3).2 1 6).toNat ((Rf.rep (Rf.cls s.data.toList) n.toNat 3).2+1)).2<0 then ([],[],-1)
   else ((Rf.rep (Rf.cls s.data.toList) n.toNat 3).1,(Rf.rep (Rf.mth s.data.toList) (Rf.cnt s.data.toList (Rf.rep (Rf.cls s.data.toList) n.toNat 3).2 1 6).toNat ((Rf.rep (Rf.cls s.data.toList) n.toNat 3).2+1)).1,(Rf.rep (Rf.mth s.data.toList) (Rf.cnt s.data.toList (Rf.rep (Rf.cls s.data.toList) n.toNat 3).2 1 6).toNat ((Rf.rep (Rf.cls s.data.toList) n.toNat 3).2+1)).2)):=by
  unfold Rf.fil;simp only;rw[Pf (by rw[Ba HX];decide),Pf (by rw[Ba HY];decide),Ba HN,Pf Bd]
 unfold Nu;rw[f5];generalize hF:Rf.fil s.data.toList=F at *;have HF:=Bc f6;clear f6 hF;go_in;go_wp2_with fail;refine(Ber _).mono ?_;rintro e w1 ⟨ga,gc,rfl,hg,c6⟩;have C1:=stay c6 (Bf w _);have c7:=((Vm w.heap.size w).alloc (Wf _) _).trans (c6.mono Fr);have i9:=Pk C1;have s1:=c7.size;have f7:=hg.mono (b':=w.heap.size) Fr;go_wp2_with fail;refine(Gy s 0 _ hs).mono ?_;rw[Ba HX];rintro e w0 ⟨rfl,rfl⟩;go_wp2_with fail;refine(Gy s 1 _ hs).mono ?_;rw[Ba HY];rintro e w0 ⟨rfl,rfl⟩;go_wp2_with fail;refine(Ej s 2 0 6 _ hs).mono ?_;rw[Ba HN];rintro e w0 ⟨rfl,rfl⟩;have D0:=Bf w1 (O11 ga 7 gc none 0 0);have f8:=c7.alloc s1 (O11 ga 7 gc none 0 0);have C2:=Bk C1 (O11 ga 7 gc none 0 0);have f9:=f7.kp (Kp.alloc (e:=none) w1 (O11 ga 7 gc none 0 0)) Ck Ck;clear hg f7 c6 c7 C1;go_wp2
 go_loopw [8,9] (fun p j wr=>∃(k:Nat) (q:Int) (v:TX) (l:List (Rd.Cls×Value)),(k:Int)<=n/\j=.i k/\p=.i q/\0<=q/\q<=3+10*(k:Int)/\l.length=7+k/\Hid (Rf.rep (Rf.cls s.data.toList) k 3=((l.map Prod.fst).drop 7,q)/\(l.map Prod.fst).take 7=Rf.given)/\Ir wr w.heap.size v l /\
   wr.heap[w1.heap.size]?=some (.cells #[v,.s none 0 0] 47 (0,0))/\wr.heap[w.heap.size]?=some (O11 none 0 0 none 0 0)/\Bl w wr)
  (fun _ j _=>n.toNat-(intOf j).toNat)
 case atStart=>exact⟨0,3,_,V7,Bd,rfl,rfl,Bd,Bd,rfl,⟨rfl,rfl⟩,f9,D0,C2,f8⟩
 case round=>
  clear f9 D0 C2 f8;obtain⟨k,q,v,l,hk,rfl,rfl,b6,j1,b4,HQ,a0,D,A,G⟩:=hrel;obtain⟨L,vc,rfl⟩:=Bg a0.1;have a5:=G.size;have g2:=Pk D;have g3:=Pk A;have b2:=Bc b4;have j2:l.length<=13:=Bd;clear b4;by_cases h8:(k:Int)<n
  ·generalize g:Rf.cls s.data.toList q=c at *;have d6:=Bur s.data.toList q;rw[g]at d6;by_cases b7:c.2<0
   ·have b5:F=([],[],-1):=by
     rw[Ba HF,Bbc (k:=k) (by rw[(Ba HQ).1];exact b6) (by rw[(Ba HQ).1];rw[g];exact b7) _ Bd,Sp Ck]
    have a6:=Bc b5;have Hc:=Bc g;clear b5 g;go_wp2_with fail;refine(Bb2 s q _ hs b6 Bd).mono ?_;rw[Ba Hc];rintro e I ⟨x,ua,un,uc,rfl,_,f⟩;have J:=G.trans (f.mono a5);have s3:=J.size;have B:=stay f D;have K:=stay f A;have l3:=Pk B;have l4:=Pk K;obtain⟨N,d1⟩:=cl2 B;obtain⟨O,Q⟩:=cl2 K;obtain⟨g0,g1⟩:=fr2 K;simp at N d1 O Q;go_wp2_with fail;refine tb (.tuple #[.agg #[.s L l.length vc,.s none 0 0],.bool false]) (by simp[results,By1,go_sem,O,Q,l4]) ?_;rw[Ba a6];refine⟨L,l.length,vc,none,0,0,?_,fun h=>?_,by repeat (first|refine Bwu ?_ Fm _|refine Bvq ?_ Fr _|exact J)⟩
    ·rw[show ((-1:Int)==(s.size:Int))=false by first|(simp;done)|(simp;omega)]
    exfalso;simp only at h;omega
   have HE:Hid (Rf.rep (Rf.cls s.data.toList) (k+1) 3=((l.map Prod.fst).drop 7++[c.1],c.2)):=Rf.rep_step (Ba HQ).1 b6 g Bd;have Hc:=Bc g;clear g;go_wp2_with fail;refine(Bb2 s q _ hs b6 Bd).mono ?_;rw[Ba Hc];rintro e I ⟨x,ua,un,uc,rfl,hx,f⟩;obtain⟨rfl,g4⟩:=hx Bd;have J:=G.trans (f.mono a5);have s3:=J.size;have B:=stay f D;have K:=stay f A;have l3:=Pk B;have b3:=a0.kp (Kp.of_below (e:=none) f) Ck Ck;have T3:=g4.mono a5;have N:=Bb B 0;have f0:=Bj B 0;simp at N;have h9:=Bc b3.2;have a1:=b3.1;clear a0 b3 g4 f D A G hx;go_wp2_with (at_builtin;refine Bvw _ rfl _ _ 44 rfl w.heap.size 225 i0 _ 2 32 underlying44 hi h2 h3 h4 rfl Ck _ _ _ rfl ((a1.alloc _).alloc _) ⟨I.heap.size+1,0,none⟩ 1 1 [.i c.1.above,.s ua un uc] rfl rfl ?c1 ?c2 ?c3 ?c4 ?c5 ?_)
   case c1=>exact Dv _ _ _ _ Fr
   case c2=>intro u hu;simp at hu;rcases hu with rfl|rfl<;>rfl
   case c3=>unfold maxLen;omega
   case c4=>omega
   case c5=>simp;omega
   intro v' w5 b0 b1 _;obtain⟨V,Y,rfl⟩:=Bg b0;have d7:=((J.alloc s3 _).alloc Fm _).grown b1 Fm (fun j hj=>(a1.lt j hj).1);have hK:=((Kp.alloc (e:=some 225) (b:=0) _ _).trans (Kp.alloc _ _)).trans (Kp.of_grown b1 ((a1.alloc _).alloc _));have a3:=hK _ _ _ (Bv5 _) B Ck;have d8:=hK _ _ _ (Bv5 _) K Ck;have x1:=Bb a3 0;have f1:=Bj a3 0;simp at x1;have a7:Kp (some 225) w.heap.size I w5:=fun k cs t _ g ht=>hK k cs t (Bv5 _) g ht;have Z:=Kp.set (b:=w.heap.size) (i:=0) a3 (.s V (l.length+1) Y);have d9:Ir (w5.setCell (.a w1.heap.size 0) (.s V (l.length+1) Y)) w.heap.size (.s V (l.length+1) Y) (l++[(c.1,.s ua un uc)]):=by
    refine⟨?_,?_⟩
    ·rw[Ba6,Up];exact Cx b0 Z Ck
    intro p C;rw[Bwt]at C;rcases C with C|C
    ·exact((Ba h9 p C).kp a7 Ck).kp Z Ck
    simp only[Bxa]at C;subst C;exact(T3.kp a7 Ck).kp Z Ck
   have HD:=Bq (i:=0) a3 (.s V (l.length+1) Y);have HC:=D7 d8 (p:=.a w1.heap.size 0) Fm (.s V (l.length+1) Y);have g5:Hid (7<=(l.map Prod.fst).length):=by unfold Hid;rw[Bvr,Ba b2];omega
   clear b1 a1 b0 hK a7 B K J Z T3;go_wp2;go_roundw
   case rel=>
    refine⟨k+1,_,_,_,Bd,Lt,rfl,Bd,Bd,by rw[Up,Ba b2];simp;omega,⟨?_,?_⟩,d9,HD,HC,d7.setCell Fm _⟩
    ·rw[Ba HE,Bvx,Bxz (Ba g5)];rfl
    rw[Bvx,Byg (Ba g5)];exact(Ba HQ).2
   case measure=>simp[intOf];omega
  obtain rfl:k=n.toNat:=Bd;have g6:Rf.rep (Rf.cls s.data.toList) n.toNat 3=((l.map Prod.fst).drop 7,q):=(Ba HQ).1;generalize hm:Rf.cnt s.data.toList q 1 6=m at *;have g7:=Rf.cnt_bd s.data.toList q 1 6 Bd;rw[hm]at g7;obtain⟨j3,j4⟩:=g7;have a4:=Ba HF;rw[g6,Pf Ls]at a4;simp only at a4;rw[hm]at a4;have HM:=Bc hm;have i1:=Bc (Ba HQ).2;clear hm g6 HQ HF b2;by_cases b7:m<0
  ·rw[Sp b7]at a4;have a6:=Bc a4;clear a4;obtain⟨N,d1⟩:=cl2 D;obtain⟨O,Q⟩:=cl2 A;obtain⟨g0,g1⟩:=fr2 A;simp at N d1 O Q;go_wp2_with fail;refine(Ej s q 1 6 _ hs).mono ?_;rw[Ba HM];rintro e w0 ⟨rfl,rfl⟩;go_wp2_with fail;refine tb (.tuple #[.agg #[.s L l.length vc,.s none 0 0],.bool false]) (by simp[results,By1,go_sem,O,Q]) ?_;rw[Ba a6];refine⟨L,l.length,vc,none,0,0,?_,fun h=>?_,by repeat (first|refine Bvq ?_ Fr _|exact G)⟩
   ·rw[show ((-1:Int)==(s.size:Int))=false by first|(simp;done)|(simp;omega)]
   exfalso;simp only at h;omega
  rw[Pf b7]at a4;have a6:=Bc a4;clear a4;go_wp2_with fail;refine(Ej s q 1 6 _ hs).mono ?_;rw[Ba HM];rintro e w0 ⟨rfl,rfl⟩;go_wp2
  go_loopw [8,12] (fun p j I=>∃(k:Nat) (t:Int) (v:TX) (z:List (Rf.Mth×Ms)),(k:Int)<=m/\j=.i k/\p=.i t/\0<=t/\t<=20000/\z.length=k/\Hid (Rf.rep (Rf.mth s.data.toList) k (q+1)=(z.map Prod.fst,t))/\Mf I w.heap.size v z/\Ir I w.heap.size (.s L l.length vc) l /\
    I.heap[w1.heap.size]?=some (.cells #[.s L l.length vc,v] 47 (0,0))/\I.heap[w.heap.size]?=some (O11 none 0 0 none 0 0)/\Bl w I)
   (fun _ j _=>m.toNat-(intOf j).toNat)
  case atStart=>exact⟨0,_,_,[],Bd,rfl,rfl,Bd,Bd,rfl,rfl,⟨Bvl _ _ _ _,Fr⟩,a0,D,A,G⟩
  case round=>
   clear a0 D A G g2 g3 a5;obtain⟨k,t,v,z,hk,rfl,rfl,b8,j5,b4,HT,b9,a0,D,A,G⟩:=hrel;obtain⟨vb,vd,rfl⟩:=Bg b9.1;have a5:=G.size;have g2:=Pk D;have g3:=Pk A;have b2:=Bc b4;have j6:z.length<=6:=Bd;clear b4;by_cases h8:(k:Int)<m
   ·generalize g:Rf.mth s.data.toList t=c at *;have d6:=Bua s.data.toList t;rw[g,f5]at d6;by_cases i2:c.2<0
    ·have b5:F=([],[],-1):=by
      rw[Ba a6,Bbc (k:=k) (by rw[Ba HT];exact b8) (by rw[Ba HT];rw[g];exact i2) _ Bd,Sp Ck]
     have f2:=Bc b5;have Hc:=Bc g;clear b5 g a6;go_wp2_with fail;refine(Bf7 s t _ f4 b8 Bd).mono ?_;unfold Wm;rw[Ba Hc];rintro e I ⟨x0,x1,a2,n2,c2,x3,x4,x5,x6,sb,a8,n8,c8,a9,n9,c9,g8,g9,rfl,_,f⟩;have J:=G.trans (f.mono a5);have s3:=J.size;have B:=stay f D;have K:=stay f A;have l3:=Pk B;have l4:=Pk K;obtain⟨N,d1⟩:=cl2 B;obtain⟨O,Q⟩:=cl2 K;obtain⟨g0,g1⟩:=fr2 K;simp at N d1 O Q;go_wp2_with fail;refine tb (.tuple #[.agg #[.s L l.length vc,.s vb z.length vd],.bool false]) (by simp[results,By1,go_sem,O,Q,l4]) ?_;rw[Ba f2];refine⟨L,l.length,vc,vb,z.length,vd,?_,fun h=>?_,by repeat (first|refine Bwu ?_ Fm _|refine Bvq ?_ Fr _|exact J)⟩
     ·rw[show ((-1:Int)==(s.size:Int))=false by first|(simp;done)|(simp;omega)]
     exfalso;simp only at h;omega
    have HE:Hid (Rf.rep (Rf.mth s.data.toList) (k+1) (q+1)=(z.map Prod.fst++[c.1],c.2)):=Rf.rep_step (Ba HT) b8 g Bd;have Hc:=Bc g;clear g;go_wp2_with fail;refine(Bf7 s t _ f4 b8 Bd).mono ?_;unfold Wm;rw[Ba Hc];rintro e I ⟨x0,x1,a2,n2,c2,x3,x4,x5,x6,sb,a8,n8,c8,a9,n9,c9,g8,g9,rfl,hx,f⟩;obtain⟨Et,h0⟩:=hx Bd;have i3:=Bc Et;have J:=G.trans (f.mono a5);have s3:=J.size;have B:=stay f D;have K:=stay f A;have l3:=Pk B;have f3:=b9.kp (Kp.of_below (e:=none) f) Ck Ck Ck Ck;have b3:=a0.kp (Kp.of_below (e:=none) f) Ck Ck;have T3:=h0.mono a5;have N:=Bb B 1;have f0:=Bj B 1;simp at N;have i4:=Bc f3.2;have a1:=f3.1;clear b9 f3 h0 f D A G hx Et a0;go_wp2_with (at_builtin;refine Bvw _ rfl _ _ 45 rfl w.heap.size 109 j0 _ 12 152 underlying45 hj h5 h6 h7 rfl Ck _ _ _ rfl ((a1.alloc _).alloc _) ⟨I.heap.size+1,0,none⟩ 1 1 [.i x0,.i x1,.s a2 n2 c2,.i x3,.i x4,.i x5,.i x6,.string sb,.s a8 n8 c8,.s a9 n9 c9,.i g8,.i g9] rfl rfl ?d1 ?d2 ?d3 ?d4 ?d5 ?_)
    case d1=>exact Dv _ _ _ _ Fr
    case d2=>intro u hu;simp at hu;rcases hu with rfl|rfl|rfl|rfl|rfl|rfl|rfl|rfl|rfl|rfl|rfl|rfl<;>rfl
    case d3=>unfold maxLen;omega
    case d4=>omega
    case d5=>simp;omega
    intro v' w5 b0 b1 _;obtain⟨V,Y,rfl⟩:=Bg b0;have d7:=((J.alloc s3 _).alloc Fm _).grown b1 Fm (fun j hj=>(a1.lt j hj).1);have hK:=((Kp.alloc (e:=some 109) (b:=0) _ _).trans (Kp.alloc _ _)).trans (Kp.of_grown b1 ((a1.alloc _).alloc _));have a3:=hK _ _ _ (Bv5 _) B Ck;have d8:=hK _ _ _ (Bv5 _) K Ck;have i5:=Bb a3 1;have f1:=Bj a3 1;simp at i5;have a7:Kp (some 109) w.heap.size I w5:=fun k cs t _ g ht=>hK k cs t (Bv5 _) g ht;have Z:=Kp.set (b:=w.heap.size) (i:=1) a3 (.s V (z.length+1) Y);have i6:Mf (w5.setCell (.a w1.heap.size 1) (.s V (z.length+1) Y)) w.heap.size (.s V (z.length+1) Y) (z++[(c.1,⟨.s a2 n2 c2,sb,.s a8 n8 c8,.s a9 n9 c9⟩)]):=by
     refine⟨?_,?_⟩
     ·rw[Bfc,Up,<- Ba i3];exact Cx b0 Z Ck
     intro p C;rw[Bwt]at C;rcases C with C|C
     ·exact((Ba i4 p C).kp a7 Ck Ck Ck).kp Z Ck Ck Ck
     simp only[Bxa]at C;subst C;exact(T3.kp a7 Ck Ck Ck).kp Z Ck Ck Ck
    have d9:=(b3.kp a7 Ck Ck).kp Z Ck Ck;have HD:=Bq (i:=1) a3 (.s V (z.length+1) Y);have HC:=D7 d8 (p:=.a w1.heap.size 1) Fm (.s V (z.length+1) Y);clear b1 a1 b0 hK a7 B K J Z T3 b3;go_wp2;go_roundw
    case rel=>
     refine⟨k+1,_,_,_,Bd,Lt,rfl,Bd,Bd,by rw[Up,Ba b2];rfl,?_,i6,d9,HD,HC,d7.setCell Fm _⟩;unfold Hid;rw[Ba HE,Bvx];rfl
    case measure=>simp[intOf];omega
   obtain rfl:k=m.toNat:=Bd;have h1:Rf.rep (Rf.mth s.data.toList) m.toNat (q+1)=(z.map Prod.fst,t):=Ba HT;have c0:=Ba a6;rw[h1,Pf Ls]at c0;simp only at c0;have f2:=Bc c0;clear c0 h1 a6 b2;obtain⟨N,d1⟩:=cl2 D;obtain⟨O,Q⟩:=cl2 A;obtain⟨g0,g1⟩:=fr2 A;simp at N d1 O Q;go_wp2_with fail;refine tb (.tuple #[.agg #[.s L l.length vc,.s vb z.length vd],.bool (t==(s.size:Int))]) (by simp[results,By1,go_sem,O,Q]) ?_;rw[Ba f2];have k1:=(Kp.set (b:=w.heap.size) (i:=0) A (.s L l.length vc)).trans (Kp.set (i:=1) (Bq (i:=0) A (.s L l.length vc)) (.s vb z.length vd));refine⟨L,l.length,vc,vb,z.length,vd,rfl,fun _=>⟨l,?_,a0.kp k1 Ck Ck,z,rfl,b9.kp k1 Ck Ck Ck Ck⟩,by repeat (first|refine Bvq ?_ Fr _|exact G)⟩
   rw[<- Ba i1,Bxm]
def Bmt(s:ByteArray)(w:TW)(z:s.size<=15000):Calls prog 87 #[.string s] w fun e c=>Nu s.data.toList w e c:=by
 have g:s.size<=maxLen:=Mc;have i:Rf.fil s.data.toList=([],[],-1)->(Calls prog 87 #[.string s] w fun e c=>∃j l m p q t,e=.r (.tuple #[.agg #[.s j l m,.s p q t],.bool false])/\Bl w c) ->
   Calls prog 87 #[.string s] w fun e c=>Nu s.data.toList w e c:=by
  intro A B;refine B.mono ?_;rintro e c ⟨j,l,m,p,q,t,rfl,C⟩;unfold Nu;rw[A];refine⟨j,l,m,p,q,t,?_,fun h=>?_,C⟩
  ·rw[show ((-1:Int)==(s.data.toList.length:Int))=false by rw[Byp];omega]
  exfalso;simp only at h;omega
 have D:=Rf.cnt_bd s.data.toList 2 0 6 Bd;by_cases b:Rf.at' s.data.toList 0=83
 ·by_cases f:Rf.at' s.data.toList 1=77
  ·by_cases v:Rf.cnt s.data.toList 2 0 6<0;·refine i ?_ (Bbb s w 83 77 _ g (Bc b) (Bc f) (Bc rfl) (.inr (.inr ⟨Ck,Ck,v⟩)));unfold Rf.fil;rw[Pf (fun h=>h b),Pf (fun h=>h f),Sp v]
   exact Bms s w _ z (Bc b) (Bc f) (Bc rfl) Bd D.2
  refine i ?_ (Bbb s w 83 _ _ g (Bc b) (Bc rfl) (Bc rfl) (.inr (.inl ⟨Ck,by simpa using f⟩)));unfold Rf.fil;rw[Pf (fun h=>h b),Sp f]
 refine i ?_ (Bbb s w _ _ _ g (Bc rfl) (Bc rfl) (Bc rfl) (.inl (by simpa using b)));unfold Rf.fil;rw[Sp b]
def Tr.rb(l:TI)(b:Int):Nat->Int->Bool
 | 0,_=>false
 | n+1,a=>if a=b then true else if Tr.hasB l a=false then false else Tr.rb l b n (l.getD a.toNat 0)
def Tr.rbel(l:TI)(a b:Int):Bool:=Tr.rb l b (l.length+1) a
def Cw (l:List (Rd.Cls × Value)):List Int:=(l.map Prod.fst).map Rd.Cls.above
def Kd(l:List (Rd.Cls×Value)):(Cw l).length=l.length:=by simp[Cw]
def Bmj(l:List (Rd.Cls×Value))(k:Nat)(h:k<l.length):(Cw l).getD k 0=l[k].1.above:=by
 simp[Cw,Th,h]
def N4(T:TI)(a b:TA)(c f g:Nat)(x:Int)(w:TW):Calls prog 89 #[.agg #[.s a T.length c,.s b f g],.i x] w fun e h=>e=.r (.bool (Tr.hasB T x))/\Bl w h:=by
 unfold Tr.hasB;by_cases j:0<=x;·go_in;go_wp2;go_ret;exact⟨by simp[j],QN _⟩
 go_in;go_wp2;go_ret;exact⟨Fm,QN _⟩
def Yo(T:TI)(a j:TA)(c l m:Nat)(k n:Int)(w:TW):Calls prog 90 #[.agg #[.s a T.length c,.s j l m],.agg #[.i k,.i n]] w fun e z=>e=.r (.bool (Tr.plainB T k n))/\Bl w z:=by
 unfold Tr.plainB;generalize A:Tr.hasB T n=B;have t:=Bc A;by_cases p:k=1
 ·rw[Sp p];subst p;cases C:(n==0)
  all_goals
   go_in;go_wp2_with fail;refine(N4 T a j c l m n _).mono ?_;rw[Ba t];rintro e v ⟨rfl,b⟩;have f:=stay b (Bv w _ _);obtain⟨g,h⟩:=cl2 f;simp at g h;go_wp2;go_ret;exact⟨rfl,(Bx _ _ _).trans (b.mono Fm)⟩
 rw[Pf p];have D:(k==1)=false:=by simp[p]
 by_cases q:k=3
 ·rw[Sp q];subst q;cases B
  all_goals
   go_in;go_wp2_with fail;refine(N4 T a j c l m n _).mono ?_;rw[Ba t];rintro e v ⟨rfl,b⟩;have f:=stay b (Bv w _ _);obtain⟨g,h⟩:=cl2 f;simp at g h;go_wp2;go_ret;exact⟨rfl,(Bx _ _ _).trans (b.mono Fm)⟩
 rw[Pf q];have F:(k==3)=false:=by simp[q]
 go_in;go_wp2_with fail;refine(N4 T a j c l m n _).mono ?_;rw[Ba t];rintro e v ⟨rfl,b⟩;have f:=stay b (Bv w _ _);obtain⟨g,h⟩:=cl2 f;simp at g h;go_wp2;go_ret;exact⟨rfl,(Bx _ _ _).trans (b.mono Fm)⟩
def Bt3{a B:Int}(h:a=B):Tr.rb z B (n+1) a=true:=by simp[Tr.rb,h]
def Bt0{a B:Int}(h:a≠B)(c:Tr.hasB z a=false):Tr.rb z B (n+1) a=false:=by simp[Tr.rb,h,c]
def Bu2{a B:Int}(h:a≠B)(c:Tr.hasB z a=true):Tr.rb z B (n+1) a=Tr.rb z B n (z.getD a.toNat 0):=by simp[Tr.rb,h,c]
def N5(b j:TA)(c t v N:Nat)(l:List (Rd.Cls×Value))(x y:Int)(w:TW)(hl:l.length<=1000)(O:Ir w N (.s b l.length c) l):Calls prog 91 #[.agg #[.s b l.length c,.s j t v],.i x,.i y] w fun e Q=>e=.r (.bool (Tr.rbel (Cw l) x y))/\Bl w Q:=by
 unfold Tr.rbel;rw[Kd];generalize V:Tr.rb (Cw l) y (l.length+1) x=r;have z:Hid (Tr.rb (Cw l) y (l.length+1-0) x=r):=V;have Y:Bl w (w.alloc (O11 b l.length c j t v)):=QN _;have Z:=Bf w (O11 b l.length c j t v);go_in;go_wp2
 go_loopw [1,7] (fun p i wr=>∃(k:Nat) (q:Int),k<=l.length+1/\i=.i k/\p=.i q/\Hid (Tr.rb (Cw l) y (l.length+1-k) q=r)/\Bl w wr /\
   wr.heap[w.heap.size]?=some (O11 b l.length c j t v))
  (fun _ i _=>l.length+1-(intOf i).toNat)
 case atStart=>exact⟨0,_,Bd,rfl,rfl,z,Y,Z⟩
 case round=>
  obtain⟨k,q,hk,rfl,rfl,z,A,G⟩:=hrel;obtain⟨c0,d1⟩:=cl2 G;simp at c0 d1;have I:=A.size;by_cases a5:k<=l.length
  ·by_cases B:q=y
   ·have a0:(q==y)=true:=by simp[B]
    have C:r=true:=by rw[<- Ba z,show l.length+1-k=(l.length-k)+1 by omega];exact Bt3 B
    have f:=Bc C;go_wp2;go_ret;exact⟨by rw[Ba f];rfl,A⟩
   have a0:(q==y)=false:=by simp[B]
   cases h:Tr.hasB (Cw l) q with
   | false =>
    have C:r=false:=by rw[<- Ba z,show l.length+1-k=(l.length-k)+1 by omega];exact Bt0 B h
    have f:=Bc C;have F:=Bc h;go_wp2_with fail;refine(show Calls prog _ _ _ _ from by have:=N4 (Cw l) b j c t v q wr;rw[Kd]at this;exact this).mono ?_;rw[Ba F];rintro e w2 ⟨rfl,D⟩;go_wp2;go_ret;exact⟨by rw[Ba f];rfl,A.trans (D.mono I)⟩
   | true =>
    have hq:0<=q/\q<(l.length:Int):=by
     unfold Tr.hasB at h;rw[Kd]at h;simpa using h
    obtain⟨m,hm⟩:=Bvk hq.1;subst hm;have J:m<l.length:=Bd;have f:Hid (Tr.rb (Cw l) y (l.length+1-(k+1)) l[m].1.above=r):=by
     unfold Hid;rw[<- Ba z,show l.length+1-k=(l.length+1-(k+1))+1 by omega,Bu2 B h,Bvn,Bmj l m J]
    have F:=Bc h;go_wp2_with fail;refine(show Calls prog _ _ _ _ from by have:=N4 (Cw l) b j c t v (m:Int) wr;rw[Kd]at this;exact this).mono ?_;rw[Ba F];rintro e w2 ⟨rfl,D⟩;have K:=A.trans (D.mono I);have L:=stay D G;obtain⟨g,hg,a6,_,a3⟩:=Cf (Cx O.1 (Kp.of_below (e:=none) K) Ck) Bd;obtain⟨e1,e2,e3⟩:=Ns l m J;have x0:=a3 (m*2) Bd;rw[e1]at x0;have a4:=Bb L 0;simp at a4;generalize l[m].1.above=ab at *;subst hg;go_wp2;go_roundw
    case rel=>exact⟨k+1,_,Bd,Lt,rfl,f,K,L⟩
    case measure=>simp[intOf];omega
  have C:r=false:=by rw[<- Ba z,show l.length+1-k=0 by omega];rfl
  have f:=Bc C;go_wp2;go_ret;exact⟨by rw[Ba f];rfl,A⟩
namespace Tr
def Bt1(l:TI)(e:0<=c)(n:Nat):rb l c n (-1)=false:=by
 cases n with
 | zero=>rfl
 | succ k =>
  unfold rb;rw[Pf Bd,Sp (by simp[hasB])]
def Bs8(h:Ok z){a B:Int}(g:0<a)(c:a<(z.length:Int))(i:0<=B)(j:a≠B):At z a B<->At z (ov z a) B:=by
 constructor
 ·rintro (e|e)
  ·exact absurd e.symm j
  rcases Bcs h Bd i c e with f|f
  ·exact .inl f
  exact .inr f
 rintro (e|e)
 ·right;rw[e];exact Wh h g c
 right;exact Uf h (Aa h g c) i c (Wh h g c) e
def Bt2(h:Ok z)(i:0<=c)(n:Nat):∀{a:Int},0<=a->a<(z.length:Int)->a<(n:Int)->(rb z c n a=true<->At z a c):=by
 induction n with
 | zero=>intro a m _ q;omega
 | succ k ih =>
  intro a m j v;unfold rb;by_cases f:a=c;·rw[Sp f];exact⟨fun _=>.inl f.symm,fun _=>rfl⟩
  rw[Pf f];have s:hasB z a=true:=by simp[hasB];omega
  rw[s,Pf Fr];have p:ov z a=z.getD a.toNat 0:=by unfold ov;rw[Pf Bd,Pf Bd]
  rw[<- p];by_cases t:a=0
  ·subst t;have:ov z 0 = -1:=by
    have:=A8 h (show (0:Int)<=0 by omega);have q:-1<=ov z 0:=by
     rw[p];have:=h.2.1;simpa using (by rw[this];omega:(-1:Int)<=z.getD 0 0)
    omega
   rw[this,Bt1 z i]
   constructor
   ·intro g;cases g
   rintro (e|e)
   ·omega
   have:=below_lt h i j e;omega
  have u1:=A8 h m;have u2:=Aa h Bd j;rw[ih u2 Bd Bd];exact(Bs8 h Bd j i f).symm
def rbel_iff(h:Ok z){a b:Int}(c:0<=a)(e:a<(z.length:Int))(f:0<=b):rbel z a b=true<->At z a b :=
 Bt2 h f (z.length+1) c e Bd
def rfits(l:TI)(k n k' n':Int):Bool :=
 if k=k'/\n=n' then true else if k'=0 then true else if k=2 then (k' == 3) else if k=3 then (k' == 3)&&rbel l n n' else false
def rfits_eq(h:Ok z){k n f:Int}(s:Arg z k n)(t:Arg z c f):rfits z k n c f=fitsB z k n c f:=by
 unfold rfits fitsB;by_cases i:k=c/\n=f;·rw[Sp i,Sp i]
 rw[Pf i,Pf i];by_cases p:c=0;·rw[Sp p,Sp p]
 rw[Pf p,Pf p];by_cases j:c=3
 ·have v:¬c≠3:=fun g=>g j;rw[Pf v];by_cases q:k=2;·rw[Sp q,Sp q];simp[j]
  rw[Pf q,Pf q];by_cases m:k=3;·rw[Sp m,Sp m];subst j m;have e:=rbel_iff h (a:=n) (b:=f) (by unfold Arg at s;omega) (by unfold Arg at s;omega) (by unfold Arg at t;omega);have:below z n f=true<->At z n f:=⟨.inr,fun g=>g.elim (fun e=>absurd ⟨rfl,e.symm⟩ i) id⟩;rw[show ((3:Int)==3)=true from rfl,Bxn];exact Bool.eq_iff_iff.2 (e.trans this.symm)
  rw[Pf m,Pf m]
 rw[Sp j];have:(c==3)=false:=by simp[j]
 rw[this];simp
end Tr
def Tr.badOf(x:Int × Int):Int:=if x.1=0 then -1 else x.2
theorem Bgb(G q:Option Addr)(h s t bb:Nat)(l:List (Rd.Cls×Value))(w:World)(hl:l.length<=13)(c8:7<=l.length)(b7:∀p∈l,p.1.fields.length<=1000)(hc:Ir w bb (.slice G l.length h) l):Calls prog 88 #[.agg #[.slice G l.length h,.slice q s t]] w fun e f=>e=.returned (.int .i64 (Tr.badOf (Tr.inCl (Cw l) 0 ((l.map Prod.fst).drop 7))))/\Below w.heap.size w f:=by
 generalize b:Tr.badOf (Tr.inCl (Cw l) 0 ((l.map Prod.fst).drop 7))=r;have I:Hid (Tr.badOf (Tr.inCl (Cw l) 0 ((l.map Prod.fst).drop (7+0)))=r):=b;clear b;have b2:Below w.heap.size w (w.alloc (O11 G l.length h q s t)):=QN _;have b3:=Bf w (O11 G l.length h q s t);go_in;go_wp2
 go_loopw [3] (fun i wr=>∃k:Nat,7+k<=l.length/\i=.int .i64 (7+(k:Int))/\Hid (Tr.badOf (Tr.inCl (Cw l) k ((l.map Prod.fst).drop (7+k)))=r)/\Below w.heap.size w wr /\
   wr.heap[w.heap.size]?=some (O11 G l.length h q s t))
  (fun i _=>l.length-(intOf i).toNat)
 case atStart=>exact⟨0,Bd,rfl,I,b2,b3⟩
 case round=>
  clear b2 b3 I;obtain⟨k,hk,rfl,I,C,hx⟩:=hrel;obtain⟨c0,d1⟩:=cl2 hx;simp at c0 d1;have c9:=C.size;by_cases Y:7+k<l.length
  ·have a3:=hc.kp (Kp.of_below (e:=none) C) Ck Ck;obtain⟨g,hg,d0,_,a4⟩:=Cf a3.1 Bd;obtain⟨e1,e2,e3⟩:=Ns l (7+k) Y;have x0:=a4 ((7+k)*2) Bd;have Z:=a4 ((7+k)*2+1) Bd;rw[e1]at x0;rw[e2]at Z;have d2:=b7 _ (Bvh Y);have a5:=a3.2 _ (Bvh Y);obtain⟨ua,uc,hu⟩:=Bg a5;rw[hu]at Z a5;have hd:(l.map Prod.fst).drop (7+k)=l[7+k].1::(l.map Prod.fst).drop (7+(k+1)):=by
    rw[Wr (by simpa using Y)];simp;rfl
   have b:=Ba I;rw[hd,Tr.inCl]at b;generalize b8:l[7+k].1=c at *;have it:((7:Int)+(k:Int)).toNat=7+k:=Bd;have d3:0<=(7:Int)+(k:Int):=Bd;have d4:(7:Int)+(k:Int)<(l.length:Int):=Bd;clear a4 e1 e2 e3 b8 hd hu a3;subst hg;by_cases h1:7+(k:Int)<=c.above
   ·rw[Sp h1]at b;have J:r=7+(k:Int):=by rw[<- b];simp[Tr.badOf]
    have v:=Bc J;clear b J;go_wp2;go_ret;exact⟨by rw[Ba v];rfl,C⟩
   rw[Pf h1]at b;generalize A:Tr.allPlainB (Cw l) c.fields=K at b;have a6:Hid (Tr.allPlainB (Cw l) (c.fields.drop 0)=K):=by unfold Hid;simpa using A
   have a0:=Bc b;clear b A;go_wp2
   go_loopw [5] (fun j w2=>∃m:Nat,m<=c.fields.length/\j=.int .i64 m/\Hid (Tr.allPlainB (Cw l) (c.fields.drop m)=K)/\Below wr.heap.size wr w2/\Below w.heap.size w w2 /\
     w2.heap[w.heap.size]?=some (O11 (some ⟨g,0,none⟩) l.length h q s t))
    (fun j _=>c.fields.length-(intOf j).toNat)
   case atStart=>exact⟨0,Bd,rfl,a6,Vm _ _,C,hx⟩
   case round=>
    obtain⟨m,hm,rfl,L,N,D,B⟩:=hrel;have a7:=a5.kp (Kp.of_below (e:=none) N) Ck;have b9:=N.size;have b4:=D.size;have a8:=Bb B 0;have a9:=Bb B 1;simp at a8 a9;by_cases b5:m<c.fields.length
    ·obtain⟨g2,c3,d5,_,b0⟩:=Cf a7 Bd;obtain⟨t1,t2,t3⟩:=Gc c.fields m b5;have u0:=b0 (m*2) Bd;have u1:=b0 (m*2+1) Bd;rw[t1]at u0;rw[t2]at u1;have b6:c.fields.drop m=c.fields[m]::c.fields.drop (m+1):=Wr b5;have O:=Ba L;rw[b6,Rn]at O;generalize c4:c.fields[m].1=Q at *;generalize c5:c.fields[m].2=V at *;have mb:(m:Int)<(c.fields.length:Int):=Bd;clear b0 t1 t2 t3 c4 c5 b6 c0 d1 x0 Z a6;subst c3;have d6:=Pk B;cases F:Tr.plainB (Cw l) Q V with
     | true =>
      have v:Hid (Tr.allPlainB (Cw l) (c.fields.drop (m+1))=K):=by unfold Hid;rw[<- O,F];simp
      have HP:=Bc F;clear F O L;go_wp2
      go_region_held3 (fun f=>f.cell? ⟨w.heap.size,0,none⟩=some (.slice (some ⟨g,0,none⟩) l.length h)/\f.cell? ⟨w.heap.size,1,none⟩=some (.slice q s t)/\f.cell? ⟨g2,m*2,none⟩=some (.int .i64 Q)/\f.cell? ⟨g2,m*2+1,none⟩=some (.int .i64 V))
       (first|go_keep|(go_split_ands;refine⟨?_,?_,?_,?_⟩<;>(rw[z.cell Fm];assumption)))
       (first|(go_at_call 90;refine(show Calls prog _ _ _ _ from by have:=Yo (Cw l) (some ⟨g,0,none⟩) q h s t Q V wr.drew;rw[Kd]at this;exact this).mono ?_;rw[Ba HP];rintro e w3 ⟨rfl,z⟩))
      have b1:Below w.heap.size w w3:=D.drew.trans (z.mono b4);have c6:=N.drew.trans (z.mono b9);have c7:=stay z (show (wr.drew).heap[w.heap.size]?=_ from B);clear z D B N a7 u0 u1 a8 a9;go_wp2;go_roundw
      case rel=>exact⟨m+1,Bd,Lt,v,c6,b1,c7⟩
      case measure=>simp[intOf];omega
     | false =>
      have A:K=false:=by rw[<- O,F];simp
      have b:=Ba a0;rw[A,Sp rfl]at b;have J:r=7+(k:Int):=by rw[<- b];simp[Tr.badOf]
      have v:=Bc J;have HP:=Bc F;clear F O L A b J a0;go_wp2
      go_region_held3 (fun f=>f.cell? ⟨w.heap.size,0,none⟩=some (.slice (some ⟨g,0,none⟩) l.length h)/\f.cell? ⟨w.heap.size,1,none⟩=some (.slice q s t)/\f.cell? ⟨g2,m*2,none⟩=some (.int .i64 Q)/\f.cell? ⟨g2,m*2+1,none⟩=some (.int .i64 V))
       (first|go_keep|(go_split_ands;refine⟨?_,?_,?_,?_⟩<;>(rw[z.cell Fm];assumption)))
       (first|(go_at_call 90;refine(show Calls prog _ _ _ _ from by have:=Yo (Cw l) (some ⟨g,0,none⟩) q h s t Q V wr.drew;rw[Kd]at this;exact this).mono ?_;rw[Ba HP];rintro e w3 ⟨rfl,z⟩))
      have b1:Below w.heap.size w w3:=D.drew.trans (z.mono b4);clear z D B N a7 u0 u1 a8 a9;go_wp2;go_ret;exact⟨by rw[Ba v];rfl,b1⟩
    have A:K=true:=by rw[<- Ba L,Bvi Bd];rfl
    have b:=Ba a0;rw[A,Pf Fr]at b;have v:=Bc b;clear b A L a0 a6 C hx c0 d1 x0 Z;go_wp2;go_roundw
    case rel=>exact⟨k+1,Bd,Lt,v,D,B⟩
    case measure=>simp[intOf];omega
  have hf:r = -1:=by rw[<- Ba I,Bvi Fm];rfl
  have v:=Bc hf;clear hf;go_wp2;go_ret;exact⟨by rw[Ba v];rfl,C⟩
def Rf.classed(s:TB):Int × Int :=
 if 15000<s.length then (1,0)
 else if (Rf.fil s).2.2≠(s.length:Int) then (2,0)
 else if 0<=Tr.badOf (Tr.inCl (Tr.tree (Rf.fil s).1) 0 (Rf.fil s).1) then (3,Tr.badOf (Tr.inCl (Tr.tree (Rf.fil s).1) 0 (Rf.fil s).1))
 else (0,0)
def Sr(l:List (Rd.Cls×Value))(b:List Rd.Cls)(h:l.map Prod.fst=Rf.given++b):Cw l=Tr.tree b/\(l.map Prod.fst).drop 7=b/\l.length=7+b.length:=by
 refine⟨?_,?_,?_⟩
 ·unfold Cw Tr.tree;rw[h,Bvx];rfl
 ·rw[h];rfl
 have:=congrArg List.length h;simp[Rf.given]at this;omega
def Ble(s:TB)(i:Int):(Rf.cls s i).1.fields.length<=1000:=by
 unfold Rf.cls
 split
 ·simp
 simp only;rw[Oy];have:=Rf.cnt_bd s (i+1) 0 4 Bd;omega
def Bhj(s:TB):(Rf.fil s).1.length<=6/\∀c∈(Rf.fil s).1,c.fields.length<=1000:=by
 have e:∀k:Nat,(Rf.rep (Rf.cls s) k 3).1.length<=k/\∀c∈(Rf.rep (Rf.cls s) k 3).1,c.fields.length<=1000:=by
  intro k
  induction k with
  | zero=>simp[Rf.rep]
  | succ j ih =>
   unfold Rf.rep
   split
   ·simp
   split
   ·simp
   refine⟨by simp;exact ih.1,?_⟩;intro c b;simp only[Bwt,Bxa]at b;rcases b with b|b
   ·exact ih.2 c b
   rw[b];exact Ble s _
 unfold Rf.fil
 split
 ·simp
 split
 ·simp
 split
 ·simp
 simp only;have f:=Rf.cnt_bd s 2 0 6 Bd;have:=e (Rf.cnt s 2 0 6).toNat
 split
 ·simp
 split
 ·simp
 split
 ·simp
 exact⟨Ls,this.2⟩
def Sh (s:TB)(w:TW)(e:Ending)(w':TW):Prop :=
 ∃a1 n1 c1 a2 n2 c2,e=.returned (.tuple #[.agg #[.slice a1 n1 c1,.slice a2 n2 c2],.int .i64 (Rf.classed s).1,.int .i64 (Rf.classed s).2]) /\
  ((Rf.classed s).1=0->∃l1 l2,l1.map Prod.fst=Rf.given++(Rf.fil s).1/\Ir w' w.heap.size (.slice a1 n1 c1) l1/\l2.map Prod.fst=(Rf.fil s).2.1/\Mf w' w.heap.size (.slice a2 n2 c2) l2)/\Below w.heap.size w w'
def Bga(s:ByteArray)(w:TW)(c3:s.size<=maxLen):Calls prog 56 #[.string s] w fun e w'=>Sh s.data.toList w e w':=by
 have a6:s.data.toList.length=s.size:=Fr;by_cases h1:15000<s.size
 ·have g:Rf.classed s.data.toList=(1,0):=by unfold Rf.classed;rw[Sp Bd]
  unfold Sh;rw[g];have b9:(15000:Int)<(s.size:Int):=Bd;go_in;go_wp2;refine tb (.tuple #[.agg #[.s none 0 0,.s none 0 0],.i 1,.i 0]) (by simp[results,Bzm,go_sem]) ?_;exact⟨none,0,0,none,0,0,rfl,fun h=>absurd h Ck,QN _⟩
 have b9:¬(15000:Int)<(s.size:Int):=Bd;have c0:s.size<=15000:=Bd;have HR:=Bc (fun w=>Bmt s w c0);have a5:=Bc (Bhj s.data.toList);by_cases j:(Rf.fil s.data.toList).2.2=(s.data.toList.length:Int)
 ·have K:((Rf.fil s.data.toList).2.2==(s.data.toList.length:Int))=true:=by rw[By9];exact j
  have H2:=Bc K;have b4:=Bc j;generalize N:Tr.badOf (Tr.inCl (Tr.tree (Rf.fil s.data.toList).1) 0 (Rf.fil s.data.toList).1)=bd;have b5:=Bc N;by_cases h3:0<=bd
  ·have g:Rf.classed s.data.toList=(3,bd):=by unfold Rf.classed;rw[Pf Bd,Pf (fun h=>h j),N,Sp h3]
   unfold Sh;rw[g];clear K j a6 N g;go_in;go_wp2_with fail;refine(Ba HR _).mono ?_;unfold Nu;rw[Ba H2];rintro e O ⟨l,n1,m,v,z,A,rfl,Q,B⟩;obtain⟨c,l2,q,L,V,b6⟩:=Q (Ba b4);obtain⟨Y,Z,I⟩:=Sr c _ q;obtain⟨xa,xc,a0⟩:=Bg L.1;simp only[Value.slice.injEq]at a0;obtain⟨rfl,a7,rfl⟩:=a0;subst a7;have t:=stay B (Bf w _);have C:=((Vm w.heap.size w).alloc (Wf _) _).trans (B.mono Fr);have a8:=Pk t;have s1:=C.size;have a9:c.length<=13:=by rw[I];have:=(Ba a5).1;omega
   have b0:7<=c.length:=by rw[I];omega
   have a3:∀p∈c,p.1.fields.length<=1000:=by
    intro p hp;have f:p.1∈c.map Prod.fst:=Bwa hp;rw[q,Bwt]at f;rcases f with f|f
    ·simp[Rf.given]at f;rcases f with h|h | h<;>simp[h]
    exact(Ba a5).2 _ f
   have b1:=Bc a3;have b7:=Bc q;have b8:=Bc V;have b2:=Bc Y;have b3:=Bc Z;clear a3 q V Y Z I Q;go_wp2_with fail;refine(Bgb l v m z A _ c _ a9 b0 (Ba b1) (L.kp (Kp.alloc (e:=none) _ _) Ck Ck)).mono ?_;rw[Ba b2,Ba b3,Ba b5];rintro e w2 ⟨rfl,D⟩;have J:=stay D (Bk t _);have D2:=stay D (Bf O _);have a4:=(C.alloc s1 _).trans (D.mono Fm);have s2:=a4.size;obtain⟨d0,d1⟩:=cl2 D2;obtain⟨F,G⟩:=cl2 J;obtain⟨g0,g1⟩:=fr2 J;simp at d0 d1 F G;go_wp2_with fail;refine tb (.tuple #[.agg #[.s none 0 0,.s none 0 0],.i 3,.i bd]) (by simp[results,Bzm,go_sem,F,G]) ?_;exact⟨none,0,0,none,0,0,rfl,fun h=>absurd h Ck,by repeat (first|refine Bvq ?_ Fr _|exact a4)⟩
  have g:Rf.classed s.data.toList=(0,0):=by unfold Rf.classed;rw[Pf Bd,Pf (fun h=>h j),N,Pf h3]
  unfold Sh;rw[g];clear K j a6 N g;go_in;go_wp2_with fail;refine(Ba HR _).mono ?_;unfold Nu;rw[Ba H2];rintro e O ⟨l,n1,m,v,z,A,rfl,Q,B⟩;obtain⟨c,l2,q,L,V,b6⟩:=Q (Ba b4);obtain⟨Y,Z,I⟩:=Sr c _ q;obtain⟨xa,xc,a0⟩:=Bg L.1;simp only[Value.slice.injEq]at a0;obtain⟨rfl,a7,rfl⟩:=a0;subst a7;have t:=stay B (Bf w _);have C:=((Vm w.heap.size w).alloc (Wf _) _).trans (B.mono Fr);have a8:=Pk t;have s1:=C.size;have a9:c.length<=13:=by rw[I];have:=(Ba a5).1;omega
  have b0:7<=c.length:=by rw[I];omega
  have a3:∀p∈c,p.1.fields.length<=1000:=by
   intro p hp;have f:p.1∈c.map Prod.fst:=Bwa hp;rw[q,Bwt]at f;rcases f with f|f
   ·simp[Rf.given]at f;rcases f with h|h | h<;>simp[h]
   exact(Ba a5).2 _ f
  have b1:=Bc a3;have b7:=Bc q;have b8:=Bc V;have b2:=Bc Y;have b3:=Bc Z;clear a3 q V Y Z I Q;go_wp2_with fail;refine(Bgb l v m z A _ c _ a9 b0 (Ba b1) (L.kp (Kp.alloc (e:=none) _ _) Ck Ck)).mono ?_;rw[Ba b2,Ba b3,Ba b5];rintro e w2 ⟨rfl,D⟩;have J:=stay D (Bk t _);have D2:=stay D (Bf O _);have a4:=(C.alloc s1 _).trans (D.mono Fm);have s2:=a4.size;obtain⟨d0,d1⟩:=cl2 D2;obtain⟨F,G⟩:=cl2 J;obtain⟨g0,g1⟩:=fr2 J;simp at d0 d1 F G;go_wp2_with fail;refine tb (.tuple #[.agg #[.s l c.length m,.s v z A],.i 0,.i 0]) (by simp[results,Bzm,go_sem,F,G]) ?_;have k0:=(Kp.alloc (e:=some 47) (b:=w.heap.size) O (O11 l c.length m v z A)).trans (Kp.of_below D);have k1:=(k0.trans (Kp.set (i:=0) J (.s l c.length m))).trans (Kp.set (i:=1) (Bq (i:=0) J (.s l c.length m)) (.s v z A));exact⟨l,c.length,m,v,z,A,rfl,fun _=>⟨c,l2,Ba b7,(L.mono Fr).kp k1 Ck Ck,Ba b8,(b6.mono Fr).kp k1 Ck Ck Ck Ck⟩,by repeat (first|refine Bvq ?_ Fr _|exact a4)⟩
 have g:Rf.classed s.data.toList=(2,0):=by unfold Rf.classed;rw[Pf Bd,Sp j]
 have K:((Rf.fil s.data.toList).2.2==(s.data.toList.length:Int))=false:=by rw[Byp];exact j
 have H2:=Bc K;unfold Sh;rw[g];clear K j a6 g;go_in;go_wp2_with fail;refine(Ba HR _).mono ?_;unfold Nu;rw[Ba H2];rintro e O ⟨l,n1,m,v,z,A,rfl,_,B⟩;have t:=stay B (Bf w _);have C:=((Vm w.heap.size w).alloc (Wf _) _).trans (B.mono Fr);have a8:=Pk t;obtain⟨F,G⟩:=cl2 t;obtain⟨g0,g1⟩:=fr2 t;simp at F G;have s1:=C.size;go_wp2_with fail;refine tb (.tuple #[.agg #[.s none 0 0,.s none 0 0],.i 2,.i 0]) (by simp[results,Bzm,go_sem,F,G,a8]) ?_;exact⟨none,0,0,none,0,0,rfl,fun h=>absurd h Ck,by repeat (first|refine Bwu ?_ Fm _|refine Bvq ?_ Fr _|exact C)⟩
def Bbd(s:TB):(Rd.read s).2=(if 15000<s.length then 1 else if (Rf.fil s).2.2≠(s.length:Int) then 2 else 0)/\((Rd.read s).2=0->(Rd.read s).1.classes=(Rf.fil s).1/\(Rd.read s).1.methods=(Rf.fil s).2.1.map Rf.Mth.m):=by
 obtain⟨g,i⟩:=Rf.fil_same s;unfold Rd.read;by_cases e:15000<s.length;·rw[Sp e,Sp e];exact⟨rfl,fun h=>absurd h Ck⟩
 rw[Pf e,Pf e];by_cases c:(Rf.fil s).2.2=(s.length:Int);·obtain⟨b,p⟩:=g.2 c;rw[Pf (by rw[b,p];simp),Pf (fun h=>h c)];exact⟨rfl,fun _=>i c⟩
 rw[Sp c];have j:(Rd.fil s ⟨0,false⟩).2.bad=true\/(Rd.fil s ⟨0,false⟩).2.pos≠s.length:=by
  rcases Bool.eq_false_or_eq_true (Rd.fil s ⟨0,false⟩).2.bad with f|f
  ·exact .inl f
  right
  intro l;exact c (g.1 ⟨f,l⟩)
 rw[Sp j];exact⟨rfl,fun h=>absurd h Ck⟩
def Bgp(s:TB)(t:Rd.St):0<=(Rd.nx s t).1:=by
 unfold Rd.nx
 split
 ·simp
 split
 ·simp
 simp only;omega
def Bf9(s:TB):∀c∈(Rd.read s).1.classes,0<=c.above:=by
 unfold Rd.read
 split
 ·simp
 split
 ·simp
 simp only[Rd.fil];refine Sb (fun c:Rd.Cls=>0<=c.above) _ (fun t=>?_) _ _;simp only[Rd.cls];exact Bgp s t
def Bst(l:TI)(b:List Rd.Cls):∀k:Nat,(Tr.inCl l k b).1=0->∀i,i<b.length->(b.map Rd.Cls.above).getD i 0<7+(k:Int)+(i:Int):=by
 induction b with
 | nil=>intro k _ i e;simp at e
 | cons c r ih =>
  intro k h i e;unfold Tr.inCl at h;by_cases f:7+(k:Int)<=c.above;·rw[Sp f]at h;simp at h
  rw[Pf f]at h;by_cases g:Tr.allPlainB l c.fields=false;·rw[Sp g]at h;simp at h
  rw[Pf g]at h;cases i with
  | zero=>simp;omega
  | succ j =>
   have:=ih (k+1) h j (by simpa using e);simp only[Bwm,B01];omega
def Bi4(b:List Rd.Cls)(g:∀c∈b,0<=c.above)(h:(Tr.inCl (Tr.tree b) 0 b).1=0):Tr.Ok (Tr.tree b):=by
 refine⟨by rw[Ix];omega,rfl,fun i p l=>?_⟩;rw[Ix]at l;by_cases q:i<7;·have:i=1\/i=2\/i=3\/i=4\/i=5\/i=6:=Bd;rcases this with rfl|rfl|rfl|rfl|rfl|rfl<;>(unfold Tr.tree Tr.given;simp)
 obtain⟨j,rfl⟩:∃j,i=7+j:=⟨i-7,Bd⟩;have f:j<b.length:=Bd;have e:(Tr.tree b).getD (7+j) 0=(b.map Rd.Cls.above).getD j 0:=by
  unfold Tr.tree;rw[Th,Th,Bvt (by simp[Tr.given])];simp[Tr.given]
 rw[e];have s:=Bst _ b 0 h j f;refine⟨?_,Bd⟩;have m:(b.map Rd.Cls.above).getD j 0=b[j].above:=by simp[Th,f]
 rw[m];exact g _ (Bvh f)
def Blg(s:TB)(h:(Rf.classed s).1=0):Tr.Ok (Tr.tree (Rf.fil s).1)/\(Rd.read s).1.classes=(Rf.fil s).1:=by
 obtain⟨e,p⟩:=Bbd s;unfold Rf.classed at h;by_cases g:15000<s.length;·rw[Sp g]at h;simp at h
 rw[Pf g]at h e;by_cases i:(Rf.fil s).2.2≠(s.length:Int);·rw[Sp i]at h;simp at h
 rw[Pf i]at h e;have j:=(p e).1;refine⟨Bi4 _ (fun c q=>Bf9 s c (by rw[j];exact q)) ?_,j⟩;by_cases b:0<=Tr.badOf (Tr.inCl (Tr.tree (Rf.fil s).1) 0 (Rf.fil s).1);·rw[Sp b]at h;simp at h
 unfold Tr.badOf at b;by_cases m:(Tr.inCl (Tr.tree (Rf.fil s).1) 0 (Rf.fil s).1).1=0;·exact m
 rw[Pf m]at b
 exfalso
 have t:∀(l:TI) (k:Nat) (f:List Rd.Cls),0<=(Tr.inCl l k f).2:=by
  intro l k f
  induction f generalizing k with
  | nil=>simp[Tr.inCl]
  | cons c r ih =>
   unfold Tr.inCl
   split
   ·simp only;omega
   split
   ·simp only;omega
   exact ih _
 exact b (t _ _ _)
namespace Cd
def wd (op:Int):Nat:=if op=0\/op=2\/op=3\/(11<=op/\op<=21) then 2 else 1
def wd_bd(op:Int):1<=wd op/\wd op<=2:=by unfold wd;split<;>omega
def starts(c:TI):Nat->Nat->List Nat
 | 0,_=>[]
 | k+1,p=>if p<c.length then p::starts c k (p+wd (c.getD p 0)) else []
def places(c:TI):List Nat:=starts c c.length 0
def starts_end{s:Nat}(h:z.length<=s):starts z k s=[]:=by
 cases k with
 | zero=>rfl
 | succ j=>unfold starts;rw[Pf Bd]
def starts_go{c:TI}{p:Nat}(h:p<c.length)(b:c.length<=p+k):∃j,k=j+1/\c.length<=(p+wd (c.getD p 0))+j/\starts c k p=p::starts c j (p+wd (c.getD p 0)):=by
 obtain⟨j,rfl⟩:∃j,k=j+1:=⟨k-1,Bd⟩;have:=wd_bd (c.getD p 0);refine⟨j,rfl,Bd,?_⟩;rw[starts,Sp h]
def first(f:Nat->Bool):List Nat->Int
 | []=>-1
 | p::r=>if f p=true then (p:Int) else first f r
def begB (c:TI)(place:Int):Bool:=(places c).any fun p=>(p:Int)==place
def noRead(c:TI)(p:Nat):Bool:=decide (25<c.getD p 0) || decide (c.length<p+wd (c.getD p 0))
def unread(c:TI):Int:=first (noRead c) (places c)
end Cd
structure RMV where
 cl:Int
 nm:Int
 pa:Option Addr
 pl:Nat
 pc:Nat
 r1:Int
 r2:Int
 lo:Int
 st:Int
 code:ByteArray
 ha:Option Addr
 hl:Nat
 hc:Nat
 ma:Option Addr
 ml:Nat
 mc:Nat
 mAt:Int
 fin:Int
def RMV.val(m:RMV):Value:=.agg #[.int .i64 m.cl,.int .i64 m.nm,.slice m.pa m.pl m.pc,.int .i64 m.r1,.int .i64 m.r2,.int .i64 m.lo,.int .i64 m.st,.string m.code,.slice m.ha m.hl m.hc,.slice m.ma m.ml m.mc,.int .i64 m.mAt,.int .i64 m.fin]
def RMV.obj(m:RMV):Obj:=.cells #[.int .i64 m.cl,.int .i64 m.nm,.slice m.pa m.pl m.pc,.int .i64 m.r1,.int .i64 m.r2,.int .i64 m.lo,.int .i64 m.st,.string m.code,.slice m.ha m.hl m.hc,.slice m.ma m.ml m.mc,.int .i64 m.mAt,.int .i64 m.fin] 109 (0,0)
def Co (s:ByteArray):List Int:=s.data.toList.map fun c=>(c.toNat:Int)
def Jo(s:ByteArray):(Co s).length=s.size:=by simp[Co]
def Sd(s:ByteArray)(p:Nat)(h:p<s.size):(Co s).getD p 0=(s[p].toNat:Int):=by
 have b:p<s.data.toList.length:=by simpa using h
 simp[Co,Th,h];rfl
def Bo6(op:Int)(w:TW):Calls prog 139 #[.i op] w fun e b=>e=.r (.i (Cd.wd op:Int))/\b=w:=by
 unfold Cd.wd;by_cases h:op=0\/op=2\/op=3\/(11<=op/\op<=21)
 ·rw[Sp h];have c:op=0\/op=2\/op=3\/op=11\/op=12\/op=13\/op=14\/op=15\/op=16\/op=17\/op=18\/op=19\/op=20\/op=21:=Bd;rcases c with rfl|rfl|rfl|rfl|rfl|rfl|rfl|rfl|rfl|rfl|rfl|rfl|rfl|rfl
  all_goals
   go_in;go_wp2;go_ret;exact⟨rfl,rfl⟩
 rw[Pf h];have f:(op==0)=false:=Fm;have g:(op==2)=false:=Fm;have j:(op==3)=false:=Fm;have l:(op==11)=false:=Fm;have m:(op==12)=false:=Fm;have p:(op==13)=false:=Fm;have q:(op==14)=false:=Fm;have s:(op==15)=false:=Fm;have t:(op==16)=false:=Fm;have v:(op==17)=false:=Fm;have z:(op==18)=false:=Fm;have A:(op==19)=false:=Fm;have B:(op==20)=false:=Fm;have C:(op==21)=false:=Fm;go_in;go_wp2;go_ret;exact⟨rfl,rfl⟩
def Uq(m:RMV)(p:Nat)(w:TW)(f:p<m.code.size)(g:m.code.size<=100000):Calls prog 94 #[m.val,.i (p:Int)] w fun e h=>e=.r (.i ((p+Cd.wd ((Co m.code).getD p 0):Nat):Int))/\Bl w h:=by
 rw[Sd _ _ f];obtain⟨q,s,t,v,z,A,B,C,D,b,F,G,I,J,K,L,N,O⟩:=m;simp only[RMV.val]at f g ⊢;have Q:=Cd.wd_bd ((b[p].toNat:Int));generalize j:Cd.wd ((b[p].toNat:Int))=d at *;have l:=Bc j;have V:(p:Int)<(b.size:Int):=Bd;have Y:∀c:UInt8,IntKind.i64.wrap (c.toNat:Int)=(c.toNat:Int):=fun c=>Eg _ Bd (by have:=c.toNat_lt;omega);go_in;go_wp2_with (go_at_call 139;refine(Bo6 _ _).mono ?_;rw[Ba l];rintro e Z ⟨rfl,rfl⟩)
 go_ret;exact⟨Fr,QN _⟩
def Yq(m:RMV)(p:Nat)(w:TW)(c:p<m.code.size)(f:m.code.size<=100000):Calls prog 100 #[m.val,.i (p:Int)] w fun e g=>e=.r (.i (Rf.at' m.code.data.toList ((p:Int)+1)))/\Bl w g:=by
 obtain⟨q,s,t,v,z,A,B,C,D,b,F,G,I,J,K,L,N,O⟩:=m;simp only[RMV.val]at c f ⊢;generalize h:Rf.at' b.data.toList ((p:Int)+1)=r;have j:=Bc h;have l:b.size<=maxLen:=Mc;go_in;go_wp2_with (go_at_call 135;refine(Gy b ((p:Int)+1) _ l).mono ?_;rw[Ba j];rintro e Q ⟨rfl,rfl⟩)
 go_ret;exact⟨rfl,QN _⟩
def Ud(m:RMV)(g:Int)(w:TW)(t:m.code.size<=100000):Calls prog 96 #[m.val,.i g] w fun e I=>e=.r (.bool (Cd.begB (Co m.code) g))/\Bl w I:=by
 have z:=fun p w J=>Uq m p w J t;have A:Bl w (w.alloc m.obj):=QN _;have B:=Bf w m.obj;unfold Cd.begB Cd.places;generalize f:(Cd.starts (Co m.code) (Co m.code).length 0).any (fun p=>(p:Int)==g)=r;have h:=Bc f;have C:=Jo m.code;obtain⟨K,L,N,O,Q,V,Y,Z,st,b,ha,a0,hc,ma,ml,mc,a1,a2⟩:=m;simp only[RMV.val,RMV.obj]at z A B t C h ⊢;have HN:=Bc z;have HL:=Bc C;go_in;go_wp2
 go_loopw [5] (fun v wr=>∃p k:Nat,v=.i (p:Int)/\(Co b).length<=p+k/\p<=200000/\Hid ((Cd.starts (Co b) k p).any (fun p=>(p:Int)==g)=r)/\Bl w wr /\
   wr.heap[w.heap.size]?=some (O12 K L N O Q V Y Z st b ha a0 hc ma ml mc a1 a2))
  (fun v _=>b.size-(intOf v).toNat)
 case atStart=>exact⟨0,_,rfl,Bd,Bd,h,A,B⟩
 case round=>
  obtain⟨p,k,rfl,hk,b2,h,q,D⟩:=hrel;obtain⟨c0,c1,c2,c3,c4,c5,c6,c7,c8,c9,a3,a4⟩:=Ia D;simp at c0 c1 c2 c3 c4 c5 c6 c7 c8 c9 a3 a4;have a5:=q.size;by_cases a6:p<b.size
  ·obtain⟨j,rfl,hj,a7⟩:=Cd.starts_go (c:=Co b) (k:=k) (p:=p) Bd hk;have f:=Ba h;rw[a7,Byb]at f;have a8:(p:Int)<(b.size:Int):=Bd;by_cases F:(p:Int)=g
   ·have s:((p:Int)==g)=true:=by simp[F]
    have l:Hid (r=true):=by unfold Hid;rw[<- f,s];rfl
    go_wp2;go_ret;exact⟨by rw[Ba l];rfl,q⟩
   have s:((p:Int)==g)=false:=by simp[F]
   rw[s,Bool.false_or]at f;have b3:=Cd.wd_bd ((Co b).getD p 0);have hn:=Ba HN p wr a6;generalize Cd.wd ((Co b).getD p 0)=d at *;have l:=Bc f;have a9:=Bc hn;go_wp2_with fail;refine Qm (Ba a9) ?_;intro w1 G;have b0:=q.trans (G.mono a5);have b1:=stay G D;go_wp2;go_roundw
   case rel=>exact⟨p+d,j,rfl,hj,Bd,l,b0,b1⟩
   case measure=>simp[intOf];omega
  have f:=Ba h;rw[Cd.starts_end Bd]at f;have l:=Bc f;have a8:¬(p:Int)<(b.size:Int):=Bd;go_wp2;go_ret;exact⟨by rw[<- Ba l];rfl,q⟩
def Bhy(m:RMV)(w:TW)(D:m.code.size<=100000):Calls prog 93 #[m.val] w fun e Q=>e=.r (.i (Cd.unread (Co m.code)))/\Bl w Q:=by
 have F:=fun p w V=>Uq m p w V D;have G:Bl w (w.alloc m.obj):=QN _;have I:=Bf w m.obj;unfold Cd.unread Cd.places;generalize f:Cd.first (Cd.noRead (Co m.code)) (Cd.starts (Co m.code) (Co m.code).length 0)=r
 have l:=Bc f;have A:=Jo m.code;obtain⟨Y,Z,pa,pl,pc,r1,r2,lo,st,b,ha,a0,hc,ma,ml,mc,a1,a2⟩:=m;simp only[RMV.val,RMV.obj]at F G I D A l ⊢;have HN:=Bc F;have HL:=Bc A;go_in;go_wp2
 go_loopw [3] (fun v wr=>∃p k:Nat,v=.i (p:Int)/\(Co b).length<=p+k/\p<=200000/\Hid (Cd.first (Cd.noRead (Co b)) (Cd.starts (Co b) k p)=r)/\Bl w wr /\
   wr.heap[w.heap.size]?=some (O12 Y Z pa pl pc r1 r2 lo st b ha a0 hc ma ml mc a1 a2))
  (fun v _=>b.size-(intOf v).toNat)
 case atStart=>exact⟨0,_,rfl,Bd,Bd,l,G,I⟩
 case round=>
  obtain⟨p,k,rfl,hk,b5,l,q,t⟩:=hrel;obtain⟨c0,c1,c2,c3,c4,c5,c6,c7,c8,c9,a3,a4⟩:=Ia t;simp at c0 c1 c2 c3 c4 c5 c6 c7 c8 c9 a3 a4;have B:=q.size;by_cases J:p<b.size
  ·obtain⟨j,rfl,hj,a5⟩:=Cd.starts_go (c:=Co b) (k:=k) (p:=p) Bd hk;have f:=Ba l;rw[a5,Cd.first]at f
   have a6:(p:Int)<(b.size:Int):=Bd;have b6:=Cd.wd_bd ((Co b).getD p 0);have hn:=fun w=>Ba HN p w J;have a7:Cd.noRead (Co b) p=(decide (25<b[p].toNat)||decide (b.size<p+Cd.wd ((Co b).getD p 0))):=by
    unfold Cd.noRead;rw[Sd b p J,A]
    congr 1
    simp only[decide_eq_decide];omega
   rw[a7]at f;generalize Cd.wd ((Co b).getD p 0)=d at *;have z:=Bc hn;by_cases K:25<b[p].toNat
   ·have a8:(25:Int)<(b[p].toNat:Int):=Bd;have h:Hid ((p:Int)=r):=by unfold Hid;rw[<- f];simp[K]
    go_wp2_with fail;refine Qm (Ba z _) ?_;intro L g;have s:=q.trans (g.mono B);have C:=Bb (stay g t) 7;simp at C;go_wp2;go_ret;exact⟨by rw[<- Ba h];rfl,s⟩
   have a8:¬(25:Int)<(b[p].toNat:Int):=Bd;by_cases N:b.size<p+d
   ·have a9:(b.size:Int)<((p+d:Nat):Int):=Bd;have h:Hid ((p:Int)=r):=by unfold Hid;rw[<- f];simp[N]
    go_wp2_with fail;refine Qm (Ba z _) ?_;intro L g;have s:=q.trans (g.mono B);have C:=Bb (stay g t) 7;simp at C;go_wp2;go_ret;exact⟨by rw[<- Ba h];rfl,s⟩
   have a9:¬(b.size:Int)<((p+d:Nat):Int):=Bd;have h:Hid (Cd.first (Cd.noRead (Co b)) (Cd.starts (Co b) j (p+d))=r):=by unfold Hid;rw[<- f];simp[K,N]
   go_wp2_with fail;refine Qm (Ba z _) ?_;intro L g;have s:=q.trans (g.mono B);have O:=stay g t;obtain⟨e0,e1,e2,e3,e4,e5,e6,e7,e8,e9,b0,b1⟩:=Ia O;simp at e0 e1 e2 e3 e4 e5 e6 e7 e8 e9 b0 b1;go_wp2_with fail;refine Qb (Ba z _) s ?_;intro w2 b2 b3;have b4:=stay b2 O;go_wp2;go_roundw
   case rel=>exact⟨p+d,j,rfl,hj,Bd,h,b3,b4⟩
   case measure=>simp[intOf];omega
  have f:=Ba l;rw[Cd.starts_end Bd]at f;have h:=Bc f;have a6:¬(p:Int)<(b.size:Int):=Bd;go_wp2;go_ret;exact⟨by rw[<- Ba h];rfl,q⟩
def Kc(l:TP):(Bu l).length=l.length*2:=by
 induction l with
 | nil=>rfl
 | cons x r ih=>simp[Bu]at ih ⊢;omega
def Ml(l r:TP):Bu (l++r)=Bu l++Bu r:=by simp[Bu]
def Va(l:TP):∀u∈Bu l,u.oneCell'=true:=by
 intro u b;simp only[Bu,List.mem_flatMap,Bxy,Bx9,Bz2]at b;obtain⟨x,_,rfl|rfl⟩:=b<;>rfl
def Blo{z:Array Oper}{A:List Oper}{o:Oper}{a:Act}{Q:Exit->Act->TW->Prop}(B:o.guard=none)(s x:Operand) (C:o.op=.call { callee:=.builtin .append,args:=#[s,x],argTypes:=#[105,105] }) (c N:Nat)(v:TX)(e b:TP)(l:TA)(m vc:Nat)(D:a.eval s=v)(q:w.ownsRow c 31 2 v e.length (Bu e))(F:a.eval x=.s l m vc)(O:Dp w N (.s l m vc) b) (h1:e.length+b.length<=100000)(V:c<=w.heap.size) (h:∀i f,f.ownsRow c 31 2 i (e++b).length (Bu (e++b))->w.grownBy f v.ownBlock->wpList prog z Q A (a.put o.dst i) f):wpList prog z Q (o::A) a w:=by
 obtain⟨G,I,Y,Z,a0⟩:=Bv4 Tryz.infoType;obtain⟨hl,⟨t,hn⟩|⟨g,J,a6,t,hb,hg,a7,hm,a8,a1⟩⟩:=O
 ·have a2:b=[]:=Bwc hn;subst a2;refine B0k B s x _ C c 31 G 2 Bwq I v _ _ D q (F.trans t) ?_;exact h v w (by simpa using q) (World.grownBy.refl _ _)
 have a3:(Value.slice l m vc)=.s (.p g) b.length J:=t;refine Bvw w B s x _ C c 31 G _ 2 16 Bwq I Y Z a0 rfl Bd v _ _ D q ⟨g,0,none⟩ b.length J (Bu b) (F.trans a3) (Kc b) ?_ (Va b) Mc Bd V ?_
 ·intro j u K;have L:j<(Bu b).length:=(List.getElem?_eq_some_iff.1 K).1;rw[Bz3,Bvp,Bb hg,<- K,<- a1,Bww,Sp (by rw[hl]at L;exact L)];simp
 intro i f a4 a5 _;exact h i f (by rw[Up,Ml];exact a4) a5
def Rf.allTo(T:TI)(cs:List Rd.Cls)(c:Int):Nat->List (Int × Int)
 | 0=>[]
 | d+1=>Rf.allTo T cs c d++(if Tr.rbel T c (d:Int)=true then (cs.getD d ⟨0,[]⟩).fields else [])
def Rf.all(T:TI)(cs:List Rd.Cls)(c:Nat):List (Int × Int):=Rf.allTo T cs (c:Int) (c+1)
def Be5(T:TI)(b:List Rd.Cls)(c:Int)(e:∀p∈b,p.fields.length<=1000)(d:Nat):(Rf.allTo T b c d).length<=1000*d:=by
 induction d with
 | zero=>simp[Rf.allTo]
 | succ k ih =>
  rw[Rf.allTo,Up];have:(b.getD k ⟨0,[]⟩).fields.length<=1000:=by
   rw[Th];rcases h:b[k]? with _|x
   ·simp
   simp;exact e x (Bwv h)
  split
  ·omega
  rw[Bwn];omega
def Bgd(A m:TA)(h q t D:Nat)(l:List (Rd.Cls×Value))(c:Nat)(w:TW)(hl:l.length<=13)(b9:c<l.length)(a0:∀p∈l,p.1.fields.length<=1000)(hc:Ir w D (.s A l.length h) l):Calls prog 201 #[.agg #[.s A l.length h,.s m q t],.i (c:Int)] w fun e w' => ∃F vc,e=.r (.s F (Rf.all (Cw l) (l.map Prod.fst) c).length vc)/\Dp w' w.heap.size (.s F (Rf.all (Cw l) (l.map Prod.fst) c).length vc) (Rf.all (Cw l) (l.map Prod.fst) c)/\Bl w w':=by
 have a4:=fun d=>Be5 (Cw l) (l.map Prod.fst) (c:Int) (by intro p hp;obtain⟨x,hx,rfl⟩:=List.mem_map.1 hp;exact a0 x hx) d;have a5:Below (w.heap.size+1) (w.alloc (O11 A l.length h m q t)) (w.alloc (O11 A l.length h m q t)):=Vm _ _;unfold Rf.all;go_in;go_wp2
 go_loopw [5,6] (fun v i wr=>∃d:Nat,d<=c+1/\i=.i (d:Int)/\wr.ownsRow (w.heap.size+1) 31 2 v (Rf.allTo (Cw l) (l.map Prod.fst) (c:Int) d).length (Bu (Rf.allTo (Cw l) (l.map Prod.fst) (c:Int) d)) /\
   Below (w.heap.size+1) (w.alloc (O11 A l.length h m q t)) wr)
  (fun _ i _=>c+1-(intOf i).toNat)
 case atStart=>exact⟨0,Bd,rfl,Bvl _ _ _ _,a5⟩
 case round=>
  obtain⟨d,hd,rfl,G,B⟩:=hrel;obtain⟨F,vc,rfl⟩:=Bg G;have a6:=B.size;simp at a6;have hB:Bl w wr:=(QN _).trans (B.mono Bd);have F0:=(B.block w.heap.size Bd).trans (Bf w _);obtain⟨x0,x1⟩:=cl2 F0;simp at x0 x1;have N:=hc.kp (Kp.of_below (e:=none) hB) Ck Ck;have c0:=a4 d;by_cases c3:d<=c
  ·have I:d<l.length:=Bd;have a7:(d:Int)<=(c:Int):=Bd;have c4:(d:Int)<(l.length:Int):=Bd;have O:Rf.allTo (Cw l) (l.map Prod.fst) (c:Int) (d+1)=Rf.allTo (Cw l) (l.map Prod.fst) (c:Int) d++(if Tr.rbel (Cw l) (c:Int) (d:Int)=true then l[d].1.fields else []):=by
    rw[Rf.allTo]
    congr 2
    simp[Th,I]
   obtain⟨g,hg,a8,_,a9⟩:=Cf N.1 Bd;obtain⟨e1,e2,e3⟩:=Ns l d I;have Q:=N.2 _ (Bvh I);have c5:=a0 _ (Bvh I);obtain⟨V,Y,hu⟩:=Bg Q;rw[hu]at Q;generalize c6:l[d].1.fields=z at *;generalize c7:Rf.allTo (Cw l) (l.map Prod.fst) (c:Int) d=J at *;generalize hb:Tr.rbel (Cw l) (c:Int) (d:Int)=b at O;have HB:=Bc hb;have a3:=Bc N;have b0:=Bc a9;have b1:Hid ((Kr l)[d*2+1]?=some (.s V z.length Y)):=by unfold Hid;rw[e2,hu]
   have b2:=Bc e3;subst hg;cases b with
   | false =>
    have Z:Hid (Rf.allTo (Cw l) (l.map Prod.fst) (c:Int) (d+1)=J):=by unfold Hid;rw[O];simp
    go_wp2_with fail;refine(N5 (.p g) m h q t D l (c:Int) (d:Int) wr Bd (Ba a3)).mono ?_;rw[Ba HB];rintro e w1 ⟨rfl,f⟩;have K:=B.trans (f.mono Bd);have L:=Cx G (Kp.of_below (e:=none) f) Ck;go_wp2;go_roundw
    case rel=>exact⟨d+1,Bd,Lt,by rw[Ba Z];exact L,K⟩
    case measure=>simp[intOf];omega
   | true =>
    have Z:Hid (Rf.allTo (Cw l) (l.map Prod.fst) (c:Int) (d+1)=J++z):=by unfold Hid;rw[O];simp
    go_wp2_with fail;refine(N5 (.p g) m h q t D l (c:Int) (d:Int) wr Bd (Ba a3)).mono ?_;rw[Ba HB];rintro e w1 ⟨rfl,f⟩;have K:=B.trans (f.mono Bd);have L:=Cx G (Kp.of_below (e:=none) f) Ck;have b3:=Q.kp (Kp.of_below (e:=none) f) Ck;have F1:=stay f F0;have y0:=Bb F1 0;have z1:w1.C g (d*2+1) (.s V z.length Y):=QC f a8 ((Ba b0 _ (Ba b2)).trans (Ba b1));have b4:=K.size;simp at y0 b4;have b5:J.length+z.length<=100000:=Bd;go_wp2_with (at_builtin;refine Blo rfl _ _ rfl (w.heap.size+1) D _ J z V z.length Y rfl L rfl b3 b5 Bd ?_)
    intro v' w2 b6 b7;have b8:=K.grown b7 Bd (fun j hj=>(L.lt j hj).1);go_wp2;go_roundw
    case rel=>exact⟨d+1,Bd,Lt,by rw[Ba Z,Up];exact b6,b8⟩
    case measure=>simp[intOf];omega
  obtain rfl:d=c+1:=Bd;have a7:¬((c+1:Nat):Int)<=(c:Int):=Bd;go_wp2;go_ret;exact⟨F,vc,rfl,D8 G Bd,hB⟩
end Go.Proofs.YtpcgnjolfahacaaGreat
