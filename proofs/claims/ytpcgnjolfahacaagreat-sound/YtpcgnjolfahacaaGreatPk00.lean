/- the proof's parts -/
import Derived.Test.YtpcgnjolfahacaaGreatRows
import Derived.WalkKit
import Derived.WalkSpells
import Derived.WalkLawsBesides
import Derived.Deep.QuietTactic
import Derived.BigQuiet
import Derived.Deep.RegionHeld3
import Derived.Laws.AppendOwnNone
import Derived.Laws.IdiomStrings
import Derived.Deep.RegionHeld
import Derived.Deep.Cut
import Derived.Deep.CutRange
import Derived.Maps.AppendAt
import Derived.Laws.Rows
import Derived.Laws.Tables
import Derived.Laws.MakeOwn
import Derived.Deep.MidRow
import Derived.Deep.Slices
import Derived.Deep.Strs
import Derived.ProofKit
import Derived.OpenShut
import Derived.ShutString
import Derived.ChangeOld
import Derived.ChangeSlices
import Derived.Below
import Derived.Lib.SmallJoins
import Derived.Laws.OwnMore
import Derived.Deep.RegionLaw
import Derived.Laws.CopyRow
import Derived.Laws.CopyOwn
import Derived.OwnWalk
import Derived.ChangeMaps5
set_option maxRecDepth 100000
set_option maxHeartbeats 40000000
set_option linter.unusedVariables false
set_option linter.unusedSimpArgs false
set_option linter.defProp false
set_option linter.defProp false
abbrev Option.p(k:Nat):Option Go.Addr:=some ⟨k,0,none⟩
namespace Go
abbrev Value.i(n:Int):Value:=.int .i64 n
abbrev Value.s(a:Option Addr)(n c:Nat):Value:=.slice a n c
abbrev TypeDesc.s:=@TypeDesc.slice
abbrev Value.q(b i:Nat):Value:=.pointer (some ⟨b,i,none⟩)
abbrev Ending.r(v:Value):Ending:=.returned v
abbrev Addr.a(b i:Nat):Addr:=⟨b,i,none⟩
abbrev World.C(w:World)(b i:Nat)(v:Value):Prop:=w.cell? ⟨b,i,none⟩=some v
end Go
namespace Go.Proofs.YtpcgnjolfahacaaGreat
open Go.RowKit
abbrev TP:=List (Int × Int)
abbrev TB:=List UInt8
abbrev TA:=Option Addr
abbrev TI:=List Int
abbrev TV:=List Value
abbrev TW:=World
abbrev TX:=Value
theorem tb{P:Program}{fn:Func}{R:Ending→World→Prop}{a:Act}{w:World}(v:Value)(hr:(results fn a.tmps).run P w=.ok v w)(hR:R (.returned v) w)(hd:a.defers=[]:=by rfl):bodyPost P fn R .ret a w:=bodyPost_ret hr hd hR
abbrev Bl(w w':World):Prop:=Below w.heap.size w w'
theorem Qm{P:Program}{f:FuncId}{a:Array Value}{w:World}{v:Ending}{T:World→Prop}{R:Ending→World→Prop}(h:Calls P f a w (fun e x=>e=v∧T x))(k:∀ x,T x→R v x):Calls P f a w R:=h.mono (fun _ _ ⟨z,y⟩=>z▸k _ y)
theorem Qb{P:Program}{f:FuncId}{a:Array Value}{u w:World}{v:Ending}{R:Ending→World→Prop}(h:Calls P f a w (fun e x=>e=v∧Below w.heap.size w x))(g:Below u.heap.size u w)(k:∀ x,Below w.heap.size w x→Below u.heap.size u x→R v x):Calls P f a w R:=Qm h (fun _ y=>k _ y (g.trans (y.mono g.size)))
theorem Bd{p:Prop}(h:p:=by omega):p:=h
theorem Ck{p:Prop}(h:p:=by decide):p:=h
theorem Fm{p:Prop}(h:p:=by simp;omega):p:=h
theorem Fr{p:Prop}(h:p:=by simp):p:=h
theorem Hd{p:Prop}(h:p:=by rfl):p:=h
theorem Le{p:Prop}(h:p:=by kernel_rfl):p:=h
theorem Ls{p:Prop}(h:p:=by simp only;omega):p:=h
theorem Lt{p:Prop}(h:p:=by go_num):p:=h
theorem Mc{p:Prop}(h:p:=by unfold maxLen;omega):p:=h
def Pf:=@if_neg
def Pk:=@lt_of_block
def Sp:=@if_pos
def Th:=@List.getD_eq_getElem?_getD
def Up:=@List.length_append
def Wr:=@List.drop_eq_getElem_cons
def Ws:=@List.getElem?_eq_getElem
def Vm:=@Below.refl
def Wf:=@Nat.le_refl
def Bvg:=@Below.heap_setCell
def Bvh:=@List.getElem_mem
def Bvi:=@List.drop_eq_nil_of_le
def Bvj:=@World.cell?_of_block
def Bvk:=@Int.eq_ofNat_of_zero_le
def Bvl:=@World.ownsRow_nil
def Bvm:=@Nat.lt_of_lt_of_le
def Bvn:=@Int.toNat_natCast
def Bvo:=@List.length_cons
def Bvq:=@Below.setCell
def Bvp:=@Nat.zero_add
def Bvr:=@List.length_map
def Bvs:=@List.take_succ_eq_append_getElem
def Bvt:=@List.getElem?_append_right
def Bvu:=@Below.heap_alloc
def Bvv:=@Nat.le_trans
def Bvw:=@wpList_append_own
def Bvx:=@List.map_append
def Bvy:=@List.getElem?_append_left
def Bv0:=@List.take_of_length_le
def Bv1:=@List.mem_cons_self
def Bv2:=@Tryz.underlying212
def Bv3:=@AllReadyH.cons
def Bv4:=@info_parts
def Bv5:=@Nat.zero_le
def Bv6:=@List.mem_cons_of_mem
def Bv7:=@List.length_set
def Bv8:=@List.getElem?_map
def Bwa:=@List.mem_map_of_mem
def Bwb:=@and_true
def Bwc:=@List.eq_nil_of_length_eq_zero
def Bwd:=@wpList_load_row
def Bwe:=@List.append_assoc
def Bwf:=@List.set_cons_succ
def Bwg:=@World.cell?_alloc_lt
def Bwi:=@List.getElem?_cons_succ
def Bwj:=@List.flatMap_cons
def Bwk:=@Bool.and_eq_true
def Bwh:=@Nat.zero_mul
def Bwl:=@List.flatMap_append
def Bv9:=@wpAnyH_done
def Bwm:=@List.map_cons
def Bwn:=@List.length_nil
def Bwo:=@Int.toNat_of_nonneg
def Bvz:=@wp_region_held_drew
def Bwp:=@decide_eq_true_eq
def Bwq:=@Tryz.underlying105
def Bws:=@List.cons_append
def Bwt:=@List.mem_append
def Bwu:=@Below.alloc
def Bwv:=@List.mem_of_getElem?
def Bww:=@List.getElem?_take
def Bwy:=@bodyPost_ret
def Bwz:=@List.getElem?_eq_none
def Bw0:=@List.length_singleton
def Bw1:=@List.set_append_right
def Bw2:=@AllReadyH.nil
def Bwr:=@Nat.le_of_lt
def Bw3:=@Array.size_push
def Bw4:=@List.sublist_cons_self
def Bw5:=@List.Sublist.cons_cons
def Bw6:=@List.mem_or_eq_of_mem_set
def Bw7:=@wpAnyH_ready
def Bw8:=@List.filterMap_cons_some
def Bw9:=@results_none
def Bwx:=@decide_eq_false
def Bxa:=@List.mem_singleton
def Bxb:=@decide_eq_false_iff_not
def Bxc:=@Ne.symm
def Bxd:=@Prod.ext
def Bxe:=@List.mem_of_mem_drop
def Bxf:=@List.length_take
def Bxg:=@wpList_append_own_at
def Bxh:=@And.intro
def Bxi:=@List.getElem?_set
def Bxj:=@List.reverse_cons
def Bxk:=@if_false
def Bxl:=@List.append_nil
def Bxm:=@List.take_append_drop
def Bxn:=@Bool.true_and
def Bxo:=@Bool.or_eq_false_iff
def Bxq:=@List.getElem?_cons_zero
def Bxr:=@Nat.add_sub_cancel_left
def Bxs:=@Tryz.underlying26
def Bxt:=@List.getElem_cons_zero
def Bxu:=@List.take_take
def Bxv:=@List.filterMap_cons_none
def Bxw:=@List.getElem?_set_ne
def Bxx:=@Int.ofNat_eq_natCast
def Bxy:=@List.mem_cons
def Bxz:=@List.drop_append_of_le_length
def Bxp:=@decide_eq_true
def Bx0:=@Bool.false_and
def Bx1:=@Option.bind_some
def Bx2:=@List.getElem?_set_self
def Bx3:=@ownsRow_setCell_below
def Bx4:=@List.nil_append
def Bx5:=@Nat.min_eq_left
def Bx6:=@Array.getElem?_eq_getElem
def Bx7:=@List.set_append_left
def Bx9:=@List.not_mem_nil
def Byb:=@List.any_cons
def Byc:=@Nat.add_assoc
def Byd:=@Tryz.results186
def Bye:=@Bool.false_eq_true
def Byf:=@wpAnyH_take
def Bx8:=@Nat.one_mul
def Byg:=@List.take_append_of_le_length
def Byh:=@List.getElem?_toArray
def Byi:=@Tryz.results22
def Byj:=@List.map_set
def Byk:=@List.take_length
def Byl:=@true_and
def Bym:=@Tryz.underlying3
def Byn:=@Array.toList_setIfInBounds
def Byo:=@Int.le_refl
def Byp:=@beq_eq_false_iff_ne
def Byq:=@List.take_succ_cons
def Bya:=@all_oneCell_toArray
def Byr:=@List.Sublist.append
def Bys:=@Tryz.results179
def Byt:=@Tryz.results163
def Byu:=@World.cell?_setCell_other
def Byw:=@List.set_cons_zero
def Byx:=@Nat.sub_self
def Byy:=@Tryz.underlying152
def Byz:=@List.map_nil
def By0:=@Tryz.underlying116
def By1:=@Tryz.results87
def By2:=@Below.drew
def By3:=@if_true
def By4:=@List.getElem?_replicate
def By5:=@List.set_eq_take_append_cons_drop
def By6:=@List.any_eq_true
def By7:=@Array.getElem?_setIfInBounds_ne
def By8:=@Tryz.results138
def By9:=@beq_iff_eq
def Bza:=@Nat.succ_mul
def Bzb:=@Tryz.results162
def Bzc:=@Tryz.results106
def Bzd:=@List.replicate_succ'
def Bze:=@Nat.mul_le_mul_right
def Bzf:=@List.set_set
def Bzg:=@Nat.add_zero
def Bzh:=@Int.natCast_add
def Bzi:=@List.drop_succ_cons
def Bzj:=@World.rangeAt_alloc
def Bzk:=@List.length_reverse
def Bzl:=@Tryz.results67
def Bzm:=@Tryz.results56
def Bzn:=@DataW.trod_int
def Bzo:=@List.Perm.cons
def Bzp:=@Option.isSome_none
def Bzq:=@Nat.lt_of_le_of_lt
def Bzr:=@Nat.add_sub_cancel
def Bzs:=@List.append_of_mem
def Bzt:=@Tryz.underlying113
def Bzu:=@List.pairwise_cons
def Bzv:=@List.take_set
def Bzw:=@List.setIfInBounds_toArray
def Bzx:=@Int.tmod_eq_emod_of_nonneg
def Bzy:=@List.ext_getElem?
def Bzz:=@Result.andThen_ok
def Bz0:=@List.Sublist.refl
def Bz1:=@List.extract_eq_take_drop
def Bz2:=@or_false
def Bz3:=@Addr.add_lit
def Bz4:=@List.ext_getElem
def Bz5:=@setRow_other
def Bz6:=@List.map_map
def Bz7:=@Option.getD_some
def Bz9:=@List.flatMap_nil
def B0a:=@World.cell?_setCell_far
def B0b:=@List.getLast?_singleton
def B0c:=@Tryz.results105
def B0d:=@Tryz.results216
def B0e:=@Bool.or_eq_true
def B0f:=@Tryz.results292
def B0g:=@Tryz.results129
def B0h:=@Tryz.results168
def Byv:=@Tryz.results111
def B0i:=@Tryz.results131
def B0j:=@ByteArray.data_extract
def B0k:=@wpList_append_own_none
def B0l:=@setRow_size
def B0m:=@List.zipWith_cons_cons
def B0n:=@Tryz.results68
def B0o:=@Tryz.results45
def B0p:=@Tryz.results53
def B0q:=@List.length_replicate
def B0r:=@Classical.choose_spec
def B0s:=@Tryz.results14
def B0t:=@Tryz.results21
def B0u:=@List.getElem_set_self
def B0v:=@Array.toList_extract
def B0w:=@List.mem_of_mem_take
def B0x:=@List.reverse_reverse
def B0y:=@List.getLast?_append
def B0z:=@List.dropLast_concat
def B00:=@List.all_cons
def B01:=@List.getD_cons_succ
def B02:=@List.getElem_of_mem
def B03:=@Sem.run_bind
def B04:=@Sem.run_pure
def B05:=@setRow_heap
def B06:=@Nat.mul_one
end Go.Proofs.YtpcgnjolfahacaaGreat
namespace Go.Proofs.YtpcgnjolfahacaaGreat
open Go.RowKit Go.Proofs.Tryz
variable{G:Array Value}{s:ByteArray}{k u:Nat}{e:Option TypeId}{w:TW}{i:TX}{g:TypeId}
namespace Rd
structure St where
 pos:Nat
 bad:Bool
def nx (s:TB)(t:St):Int × St :=
 if t.bad=true then (0,⟨t.pos,true⟩)
 else if s.length<=t.pos then (0,⟨t.pos,true⟩)
 else (((s[t.pos]?.getD 0).toNat:Int),⟨t.pos+1,false⟩)
def ex (s:TB)(b:Int)(t:St):St :=
 if (nx s t).1=b then (nx s t).2 else ⟨(nx s t).2.pos,true⟩
def cn (s:TB)(least most:Int)(t:St):Int × St :=
 if (nx s t).1<least then (0,⟨(nx s t).2.pos,true⟩)
 else if most<(nx s t).1 then (0,⟨(nx s t).2.pos,true⟩)
 else nx s t
def ty (s:TB)(t:St):(Int × Int) × St :=
 (((nx s t).1,(nx s (nx s t).2).1),(nx s (nx s t).2).2)
def rep {α:Type}(f:St->α × St):Nat->St->List α × St
 | 0,t=>([],t)
 | k+1,t=>((rep f k t).1++[(f (rep f k t).2).1],(f (rep f k t).2).2)
def rep_len{α:Type}(f:St->α×St)(n:Nat)(t:St):(rep f n t).1.length=n:=by
 induction n with
 | zero=>rfl
 | succ k ih=>simp[rep,ih]
def tys (s:TB)(n:Nat)(t:St):List (Int × Int) × St:=rep (ty s) n t
structure Cls where
 above:Int
 fields:List (Int × Int)
def cls (s:TB)(t:St):Cls × St :=
 let a:=nx s t
 let n:=cn s 0 4 a.2
 let l:=tys s n.1.toNat n.2
 (⟨a.1,l.1⟩,l.2)
def codes(s:TB)(t:St):List Int × St :=
 let n:=cn s 1 120 t
 rep (nx s) n.1.toNat n.2
structure Hnd where
 frm:Int
 til:Int
 target:Int
 cl:Int
def hnd (s:TB)(t:St):Hnd × St :=
 let a:=nx s t
 let b:=nx s a.2
 let c:=nx s b.2
 let d:=nx s c.2
 (⟨a.1,b.1,c.1,d.1⟩,d.2)
def hnds (s:TB)(t:St):List Hnd × St :=
 let n:=cn s 0 4 t
 rep (hnd s) n.1.toNat n.2
structure Mp where
 place:Int
 locals:List (Int × Int)
 stack:List (Int × Int)
def mp (s:TB)(locals stack:Int)(t:St):Mp × St :=
 let a:=nx s t
 let l:=tys s locals.toNat a.2
 let h:=cn s 0 stack l.2
 let k:=tys s h.1.toNat h.2
 (⟨a.1,l.1,k.1⟩,k.2)
def mps (s:TB)(locals stack:Int)(t:St):List Mp × St :=
 let n:=cn s 0 64 t
 rep (mp s locals stack) n.1.toNat n.2
structure Mth where
 cl:Int
 name:Int
 params:List (Int × Int)
 result:Int × Int
 locals:Int
 stack:Int
 code:List Int
 handlers:List Hnd
 maps:List Mp
def mth (s:TB)(t:St):Mth × St :=
 let a:=nx s t
 let b:=nx s a.2
 let p:=cn s 0 4 b.2
 let ps:=tys s p.1.toNat p.2
 let r:=ty s ps.2
 let l:=cn s 0 8 r.2
 let h:=cn s 0 8 l.2
 let c:=codes s h.2
 let hs:=hnds s c.2
 let ms:=mps s l.1 h.1 hs.2
 (⟨a.1,b.1,ps.1,r.1,l.1,h.1,c.1,hs.1,ms.1⟩,ms.2)
structure Fil where
 classes:List Cls
 methods:List Mth
def fil (s:TB)(t:St):Fil × St :=
 let a:=ex s 83 t
 let b:=ex s 77 a
 let n:=cn s 0 6 b
 let cs:=rep (cls s) n.1.toNat n.2
 let m:=cn s 1 6 cs.2
 let ms:=rep (mth s) m.1.toNat m.2
 (⟨cs.1,ms.1⟩,ms.2)
def nx_bd(s:TB)(t:St):0<=(nx s t).1/\(nx s t).1<=255:=by
 unfold nx
 split
 ·simp
 split
 ·simp
 have:=(s[t.pos]?.getD 0).toNat_lt
 constructor<;>simp<;>omega
def cn_bd(s:TB)(a b:Int)(t:St)(c:0<=b):0<=(cn s a b t).1/\(cn s a b t).1<=b:=by
 have:=nx_bd s t;unfold cn
 split
 ·simp[c]
 split
 ·simp[c]
 constructor<;>omega
end Rd
abbrev O0(a0:ByteArray)(a1:Int)(a2:Bool):Obj:=.cells #[.string a0,.int .i64 a1,.bool a2] 177
abbrev O1(a0:Option Addr)(a1 a2:Nat)(a3:Option Addr)(a4 a5:Nat):Obj:=.cells #[.slice a0 a1 a2,.slice a3 a4 a5] 84
abbrev O2(a0:Option Addr)(a1 a2:Nat)(a3:Option Addr)(a4 a5:Nat):Obj:=.cells #[.slice a0 a1 a2,.slice a3 a4 a5] 128
abbrev O3(a0:Option Addr)(a1 a2:Nat)(a3:Option Addr)(a4 a5:Nat)(a6:Option Addr)(a7 a8:Nat)(a9:Option Addr)(a10 a11:Nat)(a12:Option Addr)(a13 a14:Nat)(a15:Option Addr)(a16 a17:Nat)(a18:Option Addr)(a19 a20:Nat):Obj:=.cells #[.slice a0 a1 a2,.slice a3 a4 a5,.slice a6 a7 a8,.slice a9 a10 a11,.slice a12 a13 a14,.slice a15 a16 a17,.slice a18 a19 a20] 105
abbrev O4(a0:Int):Obj:=.cells #[.int .i64 a0] 3
abbrev O5(a0:Int)(a1:Option Addr)(a2 a3:Nat):Obj:=.cells #[.int .i64 a0,.slice a1 a2 a3] 139
abbrev O6(a0:Option Addr)(a1 a2:Nat):Obj:=.cells #[.slice a0 a1 a2] 105
abbrev O7(a0 a1:Int):Obj:=.cells #[.int .i64 a0,.int .i64 a1] 31
abbrev O8(a0 a1 a2:Int):Obj:=.cells #[.int .i64 a0,.int .i64 a1,.int .i64 a2] 86
abbrev O9(a0:Int)(a1:Option Addr)(a2 a3:Nat)(a4:Option Addr)(a5 a6:Nat):Obj:=.cells #[.int .i64 a0,.slice a1 a2 a3,.slice a4 a5 a6] 168
abbrev O10(a0:Int)(a1:Option Addr)(a2 a3:Nat):Obj:=.cells #[.int .i64 a0,.slice a1 a2 a3] 225
abbrev O11(a0:Option Addr)(a1 a2:Nat)(a3:Option Addr)(a4 a5:Nat):Obj:=.cells #[.slice a0 a1 a2,.slice a3 a4 a5] 47
abbrev O12(a0 a1:Int)(a2:Option Addr)(a3 a4:Nat)(a5 a6 a7 a8:Int)(a9:ByteArray)(a10:Option Addr)(a11 a12:Nat)(a13:Option Addr)(a14 a15:Nat)(a16 a17:Int):Obj:=.cells #[.int .i64 a0,.int .i64 a1,.slice a2 a3 a4,.int .i64 a5,.int .i64 a6,.int .i64 a7,.int .i64 a8,.string a9,.slice a10 a11 a12,.slice a13 a14 a15,.int .i64 a16,.int .i64 a17] 109
abbrev O13(a0 a1 a2 a3:Int):Obj:=.cells #[.int .i64 a0,.int .i64 a1,.int .i64 a2,.int .i64 a3] 235
abbrev O14(a0 a1 a2 a3:Int):Obj:=.cells #[.int .i64 a0,.int .i64 a1,.int .i64 a2,.int .i64 a3] 164
abbrev O15(a0 a1 a2:Int):Obj:=.cells #[.int .i64 a0,.int .i64 a1,.int .i64 a2] 219
abbrev O16(a0:Option Addr)(a1 a2:Nat)(a3:Option Addr)(a4 a5:Nat)(a6:Option Addr)(a7 a8:Nat)(a9:Option Addr)(a10 a11:Nat)(a12 a13:Int)(a14:Option Addr)(a15 a16:Nat)(a17 a18 a19 a20:Int)(a21:Option Addr)(a22 a23:Nat)(a24:Option Addr)(a25 a26:Nat)(a27:Option Addr)(a28 a29:Nat)(a30:Option Addr)(a31 a32:Nat):Obj:=.cells #[.slice a0 a1 a2,.slice a3 a4 a5,.slice a6 a7 a8,.slice a9 a10 a11,.int .i64 a12,.int .i64 a13,.slice a14 a15 a16,.int .i64 a17,.int .i64 a18,.int .i64 a19,.int .i64 a20,.slice a21 a22 a23,.slice a24 a25 a26,.slice a27 a28 a29,.slice a30 a31 a32] 253
abbrev O17(a0:Int)(a1:Option Addr)(a2 a3:Nat)(a4:Option Addr)(a5 a6:Nat):Obj:=.cells #[.int .i64 a0,.slice a1 a2 a3,.slice a4 a5 a6] 266
abbrev O18(a0 a1:Int)(a2:Option Addr)(a3 a4:Nat)(a5 a6 a7 a8:Int)(a9:Option Addr)(a10 a11:Nat)(a12:Option Addr)(a13 a14:Nat)(a15:Option Addr)(a16 a17:Nat):Obj:=.cells #[.int .i64 a0,.int .i64 a1,.slice a2 a3 a4,.int .i64 a5,.int .i64 a6,.int .i64 a7,.int .i64 a8,.slice a9 a10 a11,.slice a12 a13 a14,.slice a15 a16 a17] 133
abbrev O19(a0 a1 a2 a3:Int):Obj:=.cells #[.int .i64 a0,.int .i64 a1,.int .i64 a2,.int .i64 a3] 267
abbrev O20(a0:Int):Obj:=.cells #[.int .u8 a0] 5
abbrev O21(a0:Option Addr)(a1 a2:Nat):Obj:=.cells #[.slice a0 a1 a2] 137
abbrev O22(a0 a1 a2 a3:Int):Obj:=.cells #[.int .i64 a0,.int .i64 a1,.int .i64 a2,.int .i64 a3] 31
abbrev O23(a0:Option Addr)(a1 a2:Nat)(a3:Option Addr)(a4 a5:Nat)(a6:Option Addr)(a7 a8:Nat)(a9:Option Addr)(a10 a11:Nat)(a12:Int)(a13:Bool):Obj:=.cells #[.slice a0 a1 a2,.slice a3 a4 a5,.slice a6 a7 a8,.slice a9 a10 a11,.int .i64 a12,.bool a13] 320
abbrev O24(a0:Option Addr)(a1 a2:Nat)(a3:Option Addr)(a4 a5:Nat):Obj:=.cells #[.slice a0 a1 a2,.slice a3 a4 a5] 188
abbrev O25(a0:Option Addr)(a1 a2:Nat)(a3:Option Addr)(a4 a5:Nat)(a6:Option Addr)(a7 a8:Nat)(a9:Option Addr)(a10 a11:Nat)(a12 a13:Int)(a14:Option Addr)(a15 a16:Nat)(a17 a18 a19 a20:Int)(a21:Option Addr)(a22 a23:Nat)(a24:Option Addr)(a25 a26:Nat)(a27:Option Addr)(a28 a29:Nat)(a30:Option Addr)(a31 a32:Nat):Obj:=.cells #[.slice a0 a1 a2,.slice a3 a4 a5,.slice a6 a7 a8,.slice a9 a10 a11,.int .i64 a12,.int .i64 a13,.slice a14 a15 a16,.int .i64 a17,.int .i64 a18,.int .i64 a19,.int .i64 a20,.slice a21 a22 a23,.slice a24 a25 a26,.slice a27 a28 a29,.slice a30 a31 a32] 183
abbrev O26(a0:Option Addr)(a1 a2:Nat)(a3:Option Addr)(a4 a5:Nat)(a6 a7:Int)(a8:Option Addr)(a9 a10:Nat)(a11 a12 a13 a14:Int)(a15:Option Addr)(a16 a17:Nat)(a18:Option Addr)(a19 a20:Nat)(a21:Option Addr)(a22 a23:Nat)(a24:Option Addr)(a25 a26:Nat)(a27:Option Addr)(a28 a29:Nat)(a30:Option Addr)(a31 a32:Nat)(a33:Option Addr)(a34 a35:Nat)(a36:Option Addr)(a37 a38:Nat)(a39 a40:Int)(a41:Option Addr)(a42 a43:Nat)(a44 a45 a46 a47:Int)(a48:Option Addr)(a49 a50:Nat)(a51:Option Addr)(a52 a53:Nat)(a54:Option Addr)(a55 a56:Nat)(a57:Option Addr)(a58 a59:Nat):Obj:=.cells #[.slice a0 a1 a2,.slice a3 a4 a5,.int .i64 a6,.int .i64 a7,.slice a8 a9 a10,.int .i64 a11,.int .i64 a12,.int .i64 a13,.int .i64 a14,.slice a15 a16 a17,.slice a18 a19 a20,.slice a21 a22 a23,.slice a24 a25 a26,.slice a27 a28 a29,.slice a30 a31 a32,.slice a33 a34 a35,.slice a36 a37 a38,.int .i64 a39,.int .i64 a40,.slice a41 a42 a43,.int .i64 a44,.int .i64 a45,.int .i64 a46,.int .i64 a47,.slice a48 a49 a50,.slice a51 a52 a53,.slice a54 a55 a56,.slice a57 a58 a59] 212
abbrev O27(a0:Option Addr)(a1 a2:Nat)(a3:Option Addr)(a4 a5:Nat)(a6 a7:Int)(a8:Option Addr)(a9 a10:Nat)(a11 a12 a13 a14:Int)(a15:Option Addr)(a16 a17:Nat)(a18:Option Addr)(a19 a20:Nat)(a21:Option Addr)(a22 a23:Nat)(a24:Option Addr)(a25 a26:Nat)(a27:Option Addr)(a28 a29:Nat)(a30:Option Addr)(a31 a32:Nat)(a33:Option Addr)(a34 a35:Nat)(a36:Option Addr)(a37 a38:Nat)(a39 a40:Int)(a41:Option Addr)(a42 a43:Nat)(a44 a45 a46 a47:Int)(a48:Option Addr)(a49 a50:Nat)(a51:Option Addr)(a52 a53:Nat)(a54:Option Addr)(a55 a56:Nat)(a57:Option Addr)(a58 a59:Nat)(a60:Option Addr)(a61 a62:Nat)(a63:Bool):Obj:=.cells #[.slice a0 a1 a2,.slice a3 a4 a5,.int .i64 a6,.int .i64 a7,.slice a8 a9 a10,.int .i64 a11,.int .i64 a12,.int .i64 a13,.int .i64 a14,.slice a15 a16 a17,.slice a18 a19 a20,.slice a21 a22 a23,.slice a24 a25 a26,.slice a27 a28 a29,.slice a30 a31 a32,.slice a33 a34 a35,.slice a36 a37 a38,.int .i64 a39,.int .i64 a40,.slice a41 a42 a43,.int .i64 a44,.int .i64 a45,.int .i64 a46,.int .i64 a47,.slice a48 a49 a50,.slice a51 a52 a53,.slice a54 a55 a56,.slice a57 a58 a59,.slice a60 a61 a62,.bool a63] 187
abbrev O28(a0:Option Addr)(a1 a2:Nat)(a3:Option Addr)(a4 a5:Nat)(a6 a7 a8:Bool):Obj:=.cells #[.slice a0 a1 a2,.slice a3 a4 a5,.bool a6,.bool a7,.bool a8] 260
abbrev O29(a0 a1 a2 a3 a4 a5 a6 a7 a8 a9 a10 a11 a12 a13 a14 a15 a16 a17 a18 a19:Int):Obj:=.cells #[.int .i64 a0,.int .i64 a1,.int .i64 a2,.int .i64 a3,.int .i64 a4,.int .i64 a5,.int .i64 a6,.int .i64 a7,.int .i64 a8,.int .i64 a9,.int .i64 a10,.int .i64 a11,.int .i64 a12,.int .i64 a13,.int .i64 a14,.int .i64 a15,.int .i64 a16,.int .i64 a17,.int .i64 a18,.int .i64 a19] 152
abbrev O30(a0:Int)(a1:Option Addr)(a2 a3:Nat):Obj:=.cells #[.int .i64 a0,.slice a1 a2 a3] 215
abbrev O31(a0:Option Addr)(a1 a2:Nat)(a3:Int):Obj:=.cells #[.slice a0 a1 a2,.int .i64 a3] 148
abbrev O32(a0:Int)(a1:Option Addr)(a2 a3:Nat)(a4 a5 a6:Int):Obj:=.cells #[.int .i64 a0,.slice a1 a2 a3,.int .i64 a4,.int .i64 a5,.int .i64 a6] 37
abbrev O33(a0:Option Addr)(a1 a2:Nat)(a3 a4 a5:Int):Obj:=.cells #[.slice a0 a1 a2,.int .i64 a3,.int .i64 a4,.int .i64 a5] 41
abbrev O34(a0 a1:Int):Obj:=.cells #[.int .i64 a0,.int .i64 a1] 240
abbrev O35(a0:Int)(a1:Bool)(a2:Option Addr)(a3 a4:Nat):Obj:=.cells #[.int .i64 a0,.bool a1,.slice a2 a3 a4] 118
abbrev O36(a0 a1:Int)(a2:Option Addr)(a3 a4:Nat)(a5:Option Addr)(a6 a7:Nat):Obj:=.cells #[.int .i64 a0,.int .i64 a1,.slice a2 a3 a4,.slice a5 a6 a7] 171
abbrev O37(a0 a1:Int):Obj:=.cells #[.int .i64 a0,.int .i64 a1] 3
def QB{b c:TW}(h:Bl w b)(g:Bl b c):Bl w c:=h.trans (g.mono h.size)
def QC{n:Nat}{b:TW}{p:Addr}{v:Option Value}(h:Below n w b)(l:p.block<n)(f:w.cell? p=v):b.cell? p=v:=(h.cell l).trans f
def QL{n:Nat}{b:TW}(h:Below n w b)(l:k<w.heap.size):k<b.heap.size:=Bvm l h.size
def QA{o:Obj}{p:Addr}{v:Option Value}(l:p.block<w.heap.size)(f:w.cell? p=v):(w.alloc o).cell? p=v:=(Bwg _ _ _ l).trans f
def QN(o:Obj):Bl w (w.alloc o):=(Vm _ _).alloc (Wf _) o
def QX:(∀(a:Act)(d:Tmp)(v:TX),a.put (some d) v={a with tmps:=a.tmps.setIfInBounds d v})/\(∀(a:Act)(v:TX),a.put none v=a)/\(∀(l:TV)(i:Nat)(v:TX),l.toArray.setIfInBounds i v=(l.set i v).toArray)/\(∀(x:TX)(l:TV)(v:TX),(x::l).set 0 v=v::l)/\(∀(x:TX)(l:TV)(i:Nat)(v:TX),(x::l).set (i+1) v=x::l.set i v):=⟨fun _ _ _=>rfl,fun _ _=>rfl,fun _ _ _=>Fr,fun _ _ _=>rfl,fun _ _ _ _=>rfl⟩
def Gr (B:Nat)(w w':TW):Prop:=w.grownBy w' (some B)
def Gr.refl(B:Nat)(w:TW):Gr B w w:=⟨rfl,rfl,rfl,Wf _,fun _ _ _=>rfl⟩
def Gr.size{b:TW}(h:Gr u w b):w.heap.size<=b.heap.size:=World.grownBy.size h
def Gr.blk{b:TW}(h:Gr u w b)(c:k<w.heap.size)(e:k≠u):b.heap[k]?=w.heap[k]? :=
 World.grownBy.block h k c (by simpa using e)
def Gr.trans{a b c:TW}(h:Gr u a b)(k:Gr u b c):Gr u a c :=
 ⟨(World.grownBy.os k).trans (World.grownBy.os h),(World.grownBy.tape k).trans (World.grownBy.tape h),(World.grownBy.output k).trans (World.grownBy.output h),Bvv h.size k.size,
  fun i e f=>(World.grownBy.block k i (Bvm e h.size) f).trans (World.grownBy.block h i e f)⟩
def Gr.grown{a b c:TW}{f:Option Nat}(h:Gr u a b)(k:b.grownBy c f)(p:∀j,f=some j->a.heap.size<=j\/j=u):Gr u a c :=
 ⟨k.os.trans (World.grownBy.os h),k.tape.trans (World.grownBy.tape h),k.output.trans (World.grownBy.output h),Bvv h.size k.size,
  fun i g l=>(k.block i (Bvm g h.size) (fun e=>by rcases p i e.symm with m|m<;>first|omega|(subst m;exact l rfl))).trans (World.grownBy.block h i g l)⟩
def Gr.alloc{a b:TW}(h:Gr u a b)(o:Obj):Gr u a (b.alloc o) :=
 h.grown (World.grownBy_alloc b o none) Fr
def Gr.drew{a b:TW}(h:Gr u a b):Gr u a b.drew:=by
 have c:a.grownBy b (some u):=h;exact⟨c.os,c.tape,c.output,c.size,c.block⟩
def Gr.drewN{a b:TW}(h:Gr u a b)(n:Nat):Gr u a (b.drewN n):=by
 have c:a.grownBy b (some u):=h;exact⟨c.os,c.tape,c.output,c.size,c.block⟩
def Xk(w:TW)(p:Addr)(u:TX):w.grownBy (w.setCell p u) (some p.block) :=
 ⟨rfl,rfl,rfl,by simp[World.setCell],fun k _ b=>Bvg _ _ _ _ (by simpa using b)⟩
def Gr.set{a b:TW}(h:Gr u a b){p:Addr}(f:a.heap.size<=p.block\/p.block=u)(c:TX):Gr u a (b.setCell p c) :=
 h.grown (Xk b p c) (by intro j e;simp at e;subst e;exact f)
def Gr.below{b:TW}(h:Gr u w b)(e:w.heap.size<=u):Bl w b :=
 ⟨World.grownBy.os h,World.grownBy.tape h,World.grownBy.output h,h.size,fun k c=>h.blk c Bd⟩
def Gr.of_below{a b c:TW}(h:Gr u a b)(k:Bl b c):Gr u a c :=
 ⟨k.os.trans (World.grownBy.os h),k.tape.trans (World.grownBy.tape h),k.output.trans (World.grownBy.output h),Bvv h.size k.size,
  fun i e f=>(k.block i (Bvm e h.size)).trans (World.grownBy.block h i e f)⟩
def Bq{i:Nat}(h:w.heap[u]?=some (.cells G g (0,0)))(c:TX):(w.setCell (.a u i) c).heap[u]?=some (.cells (G.setIfInBounds i c) g (0,0)):=by
 have e:=Pk h;have f:w.heap[u]=.cells G g (0,0):=by simpa[Bx6 e] using h
 show (w.heap.modify u _)[u]?=_;rw[Bx6 (by simpa using e),Array.getElem_modify_self,f];rfl
def Bb(h:w.heap[u]?=some (.cells G g (0,0)))(i:Nat):w.cell? (.a u i)=G[i]?:=by simp[World.cell?,h]
def Bj(h:w.heap[u]?=some (.cells G g (0,0)))(i:Nat):w.frozen? (.a u i)=false:=by simp[World.frozen?,h]
def cl2(h:w.heap[k]?=some (.cells G g (0,0))):w.cell? (.a k 0)=G[0]?/\w.cell? (.a k 1)=G[1]?:=⟨Bb h 0,Bb h 1⟩
def cl3(h:w.heap[k]?=some (.cells G g (0,0))):w.cell? (.a k 0)=G[0]?/\w.cell? (.a k 1)=G[1]?/\w.cell? (.a k 2)=G[2]?:=⟨Bb h 0,Bb h 1,Bb h 2⟩
def cl4(h:w.heap[k]?=some (.cells G g (0,0))):w.cell? (.a k 0)=G[0]?/\w.cell? (.a k 1)=G[1]?/\w.cell? (.a k 2)=G[2]?/\w.cell? (.a k 3)=G[3]?:=⟨Bb h 0,Bb h 1,Bb h 2,Bb h 3⟩
def cl5(h:w.heap[k]?=some (.cells G g (0,0))):w.cell? (.a k 0)=G[0]?/\w.cell? (.a k 1)=G[1]?/\w.cell? (.a k 2)=G[2]?/\w.cell? (.a k 3)=G[3]?/\w.cell? (.a k 4)=G[4]?:=⟨Bb h 0,Bb h 1,Bb h 2,Bb h 3,Bb h 4⟩
def cl9(h:w.heap[k]?=some (.cells G g (0,0))):w.cell? (.a k 0)=G[0]?/\w.cell? (.a k 1)=G[1]?/\w.cell? (.a k 2)=G[2]?/\w.cell? (.a k 3)=G[3]?/\w.cell? (.a k 4)=G[4]?/\w.cell? (.a k 5)=G[5]?/\w.cell? (.a k 6)=G[6]?/\w.cell? (.a k 7)=G[7]?/\w.cell? (.a k 8)=G[8]?:=⟨Bb h 0,Bb h 1,Bb h 2,Bb h 3,Bb h 4,Bb h 5,Bb h 6,Bb h 7,Bb h 8⟩
def N7(h:w.heap[k]?=some (.cells G g (0,0))):w.cell? (.a k 0)=G[0]?/\w.cell? (.a k 1)=G[1]?/\w.cell? (.a k 2)=G[2]?/\w.cell? (.a k 3)=G[3]?/\w.cell? (.a k 4)=G[4]?/\w.cell? (.a k 5)=G[5]?/\w.cell? (.a k 6)=G[6]?/\w.cell? (.a k 7)=G[7]?/\w.cell? (.a k 8)=G[8]?/\w.cell? (.a k 9)=G[9]?:=⟨Bb h 0,Bb h 1,Bb h 2,Bb h 3,Bb h 4,Bb h 5,Bb h 6,Bb h 7,Bb h 8,Bb h 9⟩
def Ia(h:w.heap[k]?=some (.cells G g (0,0))):w.cell? (.a k 0)=G[0]?/\w.cell? (.a k 1)=G[1]?/\w.cell? (.a k 2)=G[2]?/\w.cell? (.a k 3)=G[3]?/\w.cell? (.a k 4)=G[4]?/\w.cell? (.a k 5)=G[5]?/\w.cell? (.a k 6)=G[6]?/\w.cell? (.a k 7)=G[7]?/\w.cell? (.a k 8)=G[8]?/\w.cell? (.a k 9)=G[9]?/\w.cell? (.a k 10)=G[10]?/\w.cell? (.a k 11)=G[11]?:=⟨Bb h 0,Bb h 1,Bb h 2,Bb h 3,Bb h 4,Bb h 5,Bb h 6,Bb h 7,Bb h 8,Bb h 9,Bb h 10,Bb h 11⟩
def Wg(h:w.heap[k]?=some (.cells G g (0,0))):w.cell? (.a k 0)=G[0]?/\w.cell? (.a k 1)=G[1]?/\w.cell? (.a k 2)=G[2]?/\w.cell? (.a k 3)=G[3]?/\w.cell? (.a k 4)=G[4]?/\w.cell? (.a k 5)=G[5]?/\w.cell? (.a k 6)=G[6]?/\w.cell? (.a k 7)=G[7]?/\w.cell? (.a k 8)=G[8]?/\w.cell? (.a k 9)=G[9]?/\w.cell? (.a k 10)=G[10]?/\w.cell? (.a k 11)=G[11]?/\w.cell? (.a k 12)=G[12]?/\w.cell? (.a k 13)=G[13]?/\w.cell? (.a k 14)=G[14]?:=⟨Bb h 0,Bb h 1,Bb h 2,Bb h 3,Bb h 4,Bb h 5,Bb h 6,Bb h 7,Bb h 8,Bb h 9,Bb h 10,Bb h 11,Bb h 12,Bb h 13,Bb h 14⟩
def Bq7(h:w.heap[k]?=some (.cells G g (0,0))):w.cell? (.a k 0)=G[0]?/\w.cell? (.a k 1)=G[1]?/\w.cell? (.a k 2)=G[2]?/\w.cell? (.a k 3)=G[3]?/\w.cell? (.a k 4)=G[4]?/\w.cell? (.a k 5)=G[5]?/\w.cell? (.a k 6)=G[6]?/\w.cell? (.a k 7)=G[7]?/\w.cell? (.a k 8)=G[8]?/\w.cell? (.a k 9)=G[9]?/\w.cell? (.a k 10)=G[10]?/\w.cell? (.a k 11)=G[11]?/\w.cell? (.a k 12)=G[12]?/\w.cell? (.a k 13)=G[13]?/\w.cell? (.a k 14)=G[14]?/\w.cell? (.a k 15)=G[15]?/\w.cell? (.a k 16)=G[16]?/\w.cell? (.a k 17)=G[17]?/\w.cell? (.a k 18)=G[18]?/\w.cell? (.a k 19)=G[19]?/\w.cell? (.a k 20)=G[20]?/\w.cell? (.a k 21)=G[21]?/\w.cell? (.a k 22)=G[22]?/\w.cell? (.a k 23)=G[23]?/\w.cell? (.a k 24)=G[24]?/\w.cell? (.a k 25)=G[25]?/\w.cell? (.a k 26)=G[26]?/\w.cell? (.a k 27)=G[27]?:=⟨Bb h 0,Bb h 1,Bb h 2,Bb h 3,Bb h 4,Bb h 5,Bb h 6,Bb h 7,Bb h 8,Bb h 9,Bb h 10,Bb h 11,Bb h 12,Bb h 13,Bb h 14,Bb h 15,Bb h 16,Bb h 17,Bb h 18,Bb h 19,Bb h 20,Bb h 21,Bb h 22,Bb h 23,Bb h 24,Bb h 25,Bb h 26,Bb h 27⟩
def fr2(h:w.heap[k]?=some (.cells G g (0,0))):w.frozen? (.a k 0)=false/\w.frozen? (.a k 1)=false:=⟨Bj h 0,Bj h 1⟩
def fr3(h:w.heap[k]?=some (.cells G g (0,0))):w.frozen? (.a k 0)=false/\w.frozen? (.a k 1)=false/\w.frozen? (.a k 2)=false:=⟨Bj h 0,Bj h 1,Bj h 2⟩
def fr4(h:w.heap[k]?=some (.cells G g (0,0))):w.frozen? (.a k 0)=false/\w.frozen? (.a k 1)=false/\w.frozen? (.a k 2)=false/\w.frozen? (.a k 3)=false:=⟨Bj h 0,Bj h 1,Bj h 2,Bj h 3⟩
def U8(h:w.heap[k]?=some (.cells G g (0,0))):w.frozen? (.a k 0)=false/\w.frozen? (.a k 1)=false/\w.frozen? (.a k 2)=false/\w.frozen? (.a k 3)=false/\w.frozen? (.a k 4)=false/\w.frozen? (.a k 5)=false/\w.frozen? (.a k 6)=false/\w.frozen? (.a k 7)=false/\w.frozen? (.a k 8)=false/\w.frozen? (.a k 9)=false/\w.frozen? (.a k 10)=false/\w.frozen? (.a k 11)=false:=⟨Bj h 0,Bj h 1,Bj h 2,Bj h 3,Bj h 4,Bj h 5,Bj h 6,Bj h 7,Bj h 8,Bj h 9,Bj h 10,Bj h 11⟩
def Bf(w:TW)(o:Obj):(w.alloc o).heap[w.heap.size]?=some o:=heap_alloc_new w o
def Ev (w:TW)(B:Nat)(s:ByteArray)(t:Rd.St):Prop :=
 w.heap[B]?=some (O0 s t.pos t.bad)
theorem Ev.cells{w:World}{t:Rd.St}(h:Ev w u s t):w.cell? ⟨u,0,none⟩=some (.string s)/\w.cell? ⟨u,1,none⟩=some (.int .i64 t.pos)/\w.cell? ⟨u,2,none⟩=some (.bool t.bad)/\w.frozen? ⟨u,0,none⟩=false/\w.frozen? ⟨u,1,none⟩=false/\w.frozen? ⟨u,2,none⟩=false:=by
 unfold Ev at h;simp[World.cell?,World.frozen?,h]
def Ev.lt{t:Rd.St}(h:Ev w u s t):u<w.heap.size:=Pk h
def Ev.alloc{t:Rd.St}(h:Ev w u s t)(o:Obj):Ev (w.alloc o) u s t:=by
 unfold Ev;rw[Bvu w o u h.lt];exact h
def Ev.set{t:Rd.St}(h:Ev w u s t){p:Addr}(c:p.block≠u)(b:TX):Ev (w.setCell p b) u s t:=by
 unfold Ev;rw[Bvg _ _ _ _ (fun e=>c e.symm)];exact h
def Ev.grown{b:TW}{t:Rd.St}{c:Option Nat}(h:Ev w u s t)(e:w.grownBy b c)(f:some u≠c):Ev b u s t:=by
 unfold Ev;rw[e.block u h.lt f];exact h
def Ev.pos{t:Rd.St}(h:Ev w u s t)(q:Int)(k:Nat)(b:q=k):Ev (w.setCell (.a u 1) (.i q)) u s ⟨k,t.bad⟩:=by
 unfold Ev at h ⊢;rw[Bq h,b];rfl
def Ev.bad{t:Rd.St}(h:Ev w u s t)(b:Bool):Ev (w.setCell (.a u 2) (.bool b)) u s ⟨t.pos,b⟩:=by
 unfold Ev at h ⊢;rw[Bq h];rfl
def Ev.drewN{t:Rd.St}(h:Ev w u s t)(n:Nat):Ev (w.drewN n) u s t:=h
def Gr.own{b:TW}{o:Obj}(h:Gr u w b)(c:w.heap[k]?=some o)(e:k≠u):b.heap[k]?=some o:=by
 rw[h.blk (Pk c) e];exact c
def Bb9{s j n:Nat}{e:TV}{b:TW}(h:w.ownsRow s g j i n e)(c:Gr u w b)(m:u<s):b.ownsRow s g j i n e:=by
 refine h.kept c ?_;cases f:i.ownBlock with
 | none=>exact .inl rfl
 | some k=>have:=h.lt k f;right;intro l;simp at l;omega
def Xv{s j n:Nat}{e:TV}(h:w.ownsRow s g j i n e)(c:u<s):some u≠i.ownBlock:=by
 intro b;have:=h.lt u b.symm;omega
def Xw{s j n:Nat}{e:TV}(h:w.ownsRow s g j i n e):∀b,i.ownBlock=some b->s<=b\/b=u :=
 fun b c=>.inl (h.lt b c).1
def D8{base' j n:Nat}{e:TV}(h:w.ownsRow u g j i n e)(q:base'<=u):w.ownsRow base' g j i n e:=by
 obtain⟨f,l|⟨c,m,p,a,b,r⟩⟩:=h
 ·exact⟨f,.inl l⟩
 exact⟨f,.inr ⟨c,m,p,a,Bd,r⟩⟩
def Bg{f n:Nat}{e:TV}(h:w.ownsRow u g f i n e):∃a c,i=.s a n c:=by
 obtain⟨_,⟨rfl,rfl⟩|⟨b,j,l,rfl,_⟩⟩:=h
 ·exact⟨none,0,rfl⟩
 exact⟨_,_,rfl⟩
def Dv(w:TW)(l:TV)(t:TypeId)(g:Nat)(b:w.heap.size=g):∀(j:Nat) (x:TX),l[j]?=some x->(w.alloc (.cells l.toArray t)).cell? ((⟨g,0,none⟩:Addr).add j)=some x:=by
 intro j x c;have e:(⟨g,0,none⟩:Addr).add j=⟨g,j,none⟩:=by unfold Addr.add;split<;>simp_all
 subst b;rw[e,Bb (Bf w (.cells l.toArray t (0,0))) j];simpa using c
def Bc{p:Prop}(h:p):Hid p:=h
def Ba{p:Prop}(h:Hid p):p:=h
def Bja{k:IntKind}{a B:Int}(h:a=B):Ending.returned (.int k a)=.r (.int k B):=by rw[h]
def Bdo(c:UInt8):wrap64 (c.toNat:Int)=(c.toNat:Int):=by
 have:=c.toNat_lt;unfold wrap64;omega
def Bt7(h:u<s.size):Rd.nx s.data.toList ⟨u,false⟩=((s[u].toNat:Int),⟨u+1,false⟩):=by
 have b:u<s.data.toList.length:=by simpa using h
 have e:s.data.toList[u]?.getD 0=s[u]:=by rw[Ws b];rfl
 unfold Rd.nx;rw[Pf Fr,Pf Ls];simp only[e]
def Xz(h:¬u<s.size):Rd.nx s.data.toList ⟨u,false⟩=(0,⟨u,true⟩):=by
 have b:s.data.toList.length=s.size:=Fr;unfold Rd.nx;rw[Pf Fr,Sp Ls]
def Gl:Rd.nx s.data.toList ⟨u,true⟩=(0,⟨u,true⟩):=by simp[Rd.nx]
def Ih(s:ByteArray)(B:Nat)(t:Rd.St)(w:TW)(h:s.size<=maxLen)(b:Ev w B s t):Calls prog 204 #[.q B 0] w fun e f=>e=.r (.i (Rd.nx s.data.toList t).1)/\Ev f B s (Rd.nx s.data.toList t).2/\Gr B w f:=by
 unfold maxLen at h;obtain⟨v,j,l,z,A,C⟩:=b.cells;obtain⟨c,m⟩:=t;simp only at j l;cases m
 ·by_cases g:c<s.size;·rw[Bt7 g];have p:decide ((c:Int)<0)=false:=Fr;go_in;go_wp2;go_quiet (fail);go_wp2;go_quiet (fail);go_wp2;go_ret;exact⟨Bja (Bdo _),(b.drewN _).pos _ _ Bd,((Gr.refl _ _).drewN _).set (.inr rfl) _⟩
  rw[Xz g];have p:decide ((c:Int)<0)=false:=Fr;have g2:decide (s.size<=c)=true:=Fm;go_in;go_wp2;go_quiet (fail);go_wp2;go_ret;exact⟨rfl,(b.drewN _).bad _,((Gr.refl _ _).drewN _).set (.inr rfl) _⟩
 rw[Gl];go_in;go_wp2;go_quiet (fail);go_wp2;go_ret;exact⟨rfl,(b.drewN _).bad _,((Gr.refl _ _).drewN _).set (.inr rfl) _⟩
def Bcn(s:ByteArray)(B:Nat)(b:Int)(t:Rd.St)(w:TW)(h:s.size<=maxLen)(j:Ev w B s t):Calls prog 154 #[.q B 0,.i b] w fun e l=>e=.r (.tuple #[])/\Ev l B s (Rd.ex s.data.toList b t)/\Gr B w l:=by
 unfold Rd.ex;generalize p:Rd.nx s.data.toList t=r;have m:=Bc p;by_cases c:r.1=b
 ·rw[Sp c];have v:(r.1 != b)=false:=by simp[c]
  have z:=Bc c;go_in;go_wp2_with (go_at_call 204;refine(Ih s B t _ h j).mono ?_;rw[Ba m];rintro e A ⟨rfl,f,g⟩)
  go_end0;exact⟨rfl,f,g⟩
 rw[Pf c];have v:(r.1 != b)=true:=by simp[c]
 have z:=Bc c;go_in;go_wp2_with (go_at_call 204;refine(Ih s B t _ h j).mono ?_;rw[Ba m];rintro e A ⟨rfl,f,g⟩;obtain⟨C,D,F,G,I,J⟩:=f.cells)
 go_end0;exact⟨rfl,f.bad _,g.set (.inr rfl) _⟩
def Ln(s:ByteArray)(B:Nat)(f g:Int)(t:Rd.St)(w:TW)(h:s.size<=maxLen)(j:Ev w B s t):Calls prog 155 #[.q B 0,.i f,.i g] w fun e m=>e=.r (.i (Rd.cn s.data.toList f g t).1)/\Ev m B s (Rd.cn s.data.toList f g t).2/\Gr B w m:=by
 unfold Rd.cn;generalize A:Rd.nx s.data.toList t=r;have l:=Bc A;by_cases p:r.1<f
 ·rw[Sp p];go_in;go_wp2_with (go_at_call 204;refine(Ih s B t _ h j).mono ?_;rw[Ba l];rintro e v ⟨rfl,b,c⟩;obtain⟨C,D,F,G,I,J⟩:=b.cells)
  go_ret;exact⟨rfl,b.bad _,c.set (.inr rfl) _⟩
 rw[Pf p];by_cases z:g<r.1
 ·rw[Sp z];go_in;go_wp2_with (go_at_call 204;refine(Ih s B t _ h j).mono ?_;rw[Ba l];rintro e v ⟨rfl,b,c⟩;obtain⟨C,D,F,G,I,J⟩:=b.cells)
  go_ret;exact⟨rfl,b.bad _,c.set (.inr rfl) _⟩
 rw[Pf z];go_in;go_wp2_with (go_at_call 204;refine(Ih s B t _ h j).mono ?_;rw[Ba l];rintro e v ⟨rfl,b,c⟩)
 go_ret;exact⟨rfl,b,c⟩
def Bar(s:ByteArray)(B:Nat)(t:Rd.St)(w:TW)(c:s.size<=maxLen)(f:Ev w B s t):Calls prog 206 #[.q B 0] w fun e g=>e=.r (.agg #[.i (Rd.ty s.data.toList t).1.1,.i (Rd.ty s.data.toList t).1.2])/\Ev g B s (Rd.ty s.data.toList t).2/\Gr B w g:=by
 unfold Rd.ty;have J:=f.lt;generalize z:Rd.nx s.data.toList t=b;generalize A:Rd.nx s.data.toList b.2=C;have D:=Bc z;have F:=Bc A;go_in;go_wp2_with fail;refine(Ih s B t _ c (f.alloc _)).mono ?_;rw[Ba D];rintro e K ⟨rfl,G,h⟩;go_wp2_with fail;refine(Ih s B b.2 _ c G).mono ?_;rw[Ba F];rintro e L ⟨rfl,I,j⟩;have l:=j.own (h.own (Bf w _) Bd) Bd;obtain⟨m,p⟩:=cl2 l;obtain⟨N,O⟩:=fr2 l;simp only[Byh,Bxq,Bwi]at m p;go_wp2_with fail;refine Bwy (v:=.agg #[.i b.1,.i C.1]) (by simp[results,results206,go_sem,m,p]) rfl ⟨rfl,(I.set Fm _).set Fm _,?_⟩;exact((((Gr.refl _ _).alloc _).trans (h.trans j)).set (.inl Fr) _).set (.inl Fr) _
def Tryz.infoType:(prog.info? 31).map (fun i=>(i.zero,i.size,i.bytes))=some (some (.agg #[.i 0,.i 0]),2,16):=Le
def Bu (l:TP):List Value:=l.flatMap fun x=>[.int .i64 x.1,.int .i64 x.2]
def Xd(l:TP)(x:Int×Int):Bu (l++[x])=Bu l++[.i x.1,.i x.2]:=by simp[Bu]
def Wx(s:ByteArray)(B:Nat)(n:Int)(t:Rd.St)(w:TW)(G:s.size<=maxLen)(a2:0<=n)(a3:n<=255)(h:Ev w B s t):Calls prog 205 #[.q B 0,.i n] w fun e b => ∃v,e=.returned v/\b.ownsRow w.heap.size 31 2 v n.toNat (Bu (Rd.tys s.data.toList n.toNat t).1)/\Ev b B s (Rd.tys s.data.toList n.toNat t).2/\Gr B w b:=by
 have j:=h.lt;obtain⟨I,J,K,L,N⟩:=Bv4 Tryz.infoType;unfold Rd.tys;go_in;go_wp2
 go_loopw [5,6] (fun v i wr=>∃k:Nat,(k:Int)<=n/\i=.i k/\wr.ownsRow w.heap.size 31 2 v k (Bu (Rd.rep (Rd.ty s.data.toList) k t).1)/\Ev wr B s (Rd.rep (Rd.ty s.data.toList) k t).2/\Gr B w wr)
  (fun _ i _=>n.toNat-(intOf i).toNat)
 case atStart=>exact⟨0,Bd,rfl,Bvl _ _ _ _,h,Gr.refl _ _⟩
 case round=>
  obtain⟨k,hk,rfl,l,m,c⟩:=hrel;have a4:=c.size;by_cases a5:(k:Int)<n
  ·generalize O:Rd.rep (Rd.ty s.data.toList) k t=p at *;generalize Q:Rd.ty s.data.toList p.2=q at *;have V:=Bc O;have z:=Bc Q;go_wp2_with fail;refine(Bar s B p.2 _ G m).mono ?_;rw[Ba z];rintro e Y ⟨rfl,Z,f⟩;have a6:=f.size;have g:=Bb9 l f j;go_wp2_with (at_builtin;refine Bvw _ rfl _ _ 105 rfl w.heap.size 31 I _ 2 16 Bwq J K L N rfl Ck _ _ _ rfl ((g.alloc _).alloc _) ⟨Y.heap.size+1,0,none⟩ 1 1 [.i q.1.1,.i q.1.2] rfl rfl ?c1 ?c2 ?c3 ?c4 ?c5 ?_)
   case c1=>exact Dv _ _ _ _ Fr
   case c2=>intro u A;simp at A;rcases A with rfl|rfl<;>rfl
   case c3=>unfold maxLen;omega
   case c4=>omega
   case c5=>simp;omega
   intro v' w2 C D _;have a0:=((Z.alloc _).alloc _).grown D (Xv g j);have a1:=(((c.trans f).alloc _).alloc _).grown D (Xw g);have e1:(Rd.rep (Rd.ty s.data.toList) (k+1) t)=(p.1++[q.1],q.2):=by simp only[Rd.rep,Ba V,Ba z]
   rw[<- Xd]at C;have F:=Bc e1;go_wp2;go_roundw
   case rel=>exact⟨k+1,Bd,Lt,by rw[Ba F];exact C,by rw[Ba F];exact a0,a1⟩
   case measure=>simp[intOf];omega
  have e:k=n.toNat:=Bd;subst e;go_wp2;go_ret;exact⟨_,rfl,l,m,c⟩
def Kp (e:Option TypeId)(b:Nat)(w w':TW):Prop :=
 ∀k cs t,b<=k->w.heap[k]?=some (.cells cs t (0,0))->some t≠e->w'.heap[k]?=some (.cells cs t (0,0))
def Kp.of_gr{s:Nat}{b:TW}(h:Gr u w b)(f:u<s):Kp e s w b:=by
 intro k g t i c _;rw[h.blk (Pk c) Bd];exact c
def Kp.of_below{b:Nat}{c:TW}(h:Bl w c):Kp e b w c:=by
 intro k g t _ f _;rw[h.block k (Pk f)];exact f
def Kp.of_grown{b s j n:Nat}{e:TV}{p:TW}(q:w.grownBy p i.ownBlock)(h:w.ownsRow s g j i n e):Kp (some g) b w p:=by
 intro k A t _ f z;rw[q.block k (Pk f) ?_];exact f;intro l;obtain⟨B,⟨rfl,_⟩|⟨c,C,D,rfl,_,m,_⟩⟩:=h
 ·simp[Value.ownBlock]at l
 simp[Value.ownBlock]at l;subst l;rw[f]at m;simp at m;exact z (by rw[m.2])
def Kp.trans{O:Option TypeId}{b c:TW}(h:Kp O u w b)(k:Kp O u b c):Kp O u w c :=
 fun i f t g l j=>k i f t g (h i f t g l j) j
def Kp.alloc{b:Nat}(w:TW)(o:Obj):Kp e b w (w.alloc o):=by
 intro k f t _ c _;rw[Bvu w o k (Pk c)];exact c
def Kp.set{b i:Nat}{j:Nat}(h:w.heap[j]?=some (.cells G g (0,0)))(u:TX):Kp (some g) b w (w.setCell (.a j i) u):=by
 intro k m t _ c l;rw[Bvg _ _ _ _ ?_];exact c;intro f;simp only at f;subst f;rw[c]at h;simp at h;exact l (by rw[h.2])
def Cx{s n:Nat}{j:TV}{b:TW}(h:w.ownsRow u g s i n j)(p:Kp e u w b)(q:some g≠e):b.ownsRow u g s i n j:=by
 obtain⟨l,z|⟨f,A,m,a,c,d,r⟩⟩:=h
 ·exact⟨l,.inl z⟩
 exact⟨l,.inr ⟨f,A,m,a,c,p f m g c d q,r⟩⟩
def Dp (w:TW)(b:Nat)(v:TX)(l:TP):Prop:=w.ownsRow b 31 2 v l.length (Bu l)
def Dp.kp{q:TP}{b:TW}(h:Dp w u i q)(c:Kp e u w b)(f:some 31≠e):Dp b u i q:=Cx h c f
def Dp.mono{b':Nat}{q:TP}(h:Dp w u i q)(c:b'<=u):Dp w b' i q:=D8 h c
def Du (w:TW)(b:Nat)(v:TX)(l:TI):Prop:=w.ownsRow b 3 1 v l.length (l.map (Value.int .i64))
def Du.kp{z:TI}{b:TW}(h:Du w u i z)(c:Kp e u w b)(f:some 3≠e):Du b u i z:=Cx h c f
def Du.mono{b':Nat}{z:TI}(h:Du w u i z)(c:b'<=u):Du w b' i z:=D8 h c
def Et (l:List Rd.Hnd):List Value:=l.flatMap fun x=>[.int .i64 x.frm,.int .i64 x.til,.int .i64 x.target,.int .i64 x.cl]
def Baw(l:List Rd.Hnd)(x:Rd.Hnd):Et (l++[x])=Et l++[.i x.frm,.i x.til,.i x.target,.i x.cl]:=by simp[Et]
def J5 (w:TW)(b:Nat)(v:TX)(l:List Rd.Hnd):Prop:=w.ownsRow b 267 4 v l.length (Et l)
def J5.kp{l:List Rd.Hnd}{b:TW}(h:J5 w u i l)(c:Kp e u w b)(f:some 267≠e):J5 b u i l:=Cx h c f
def J5.mono{b':Nat}{l:List Rd.Hnd}(h:J5 w u i l)(c:b'<=u):J5 w b' i l:=D8 h c
def Kr (l:List (Rd.Cls × Value)):List Value:=l.flatMap fun x=>[.int .i64 x.1.above,x.2]
def Ba6(l:List (Rd.Cls×Value))(x:Rd.Cls×Value):Kr (l++[x])=Kr l++[.i x.1.above,x.2]:=by simp[Kr]
def Ex (w:TW)(b:Nat)(v:TX)(l:List (Rd.Cls × Value)):Prop :=
 w.ownsRow b 139 2 v l.length (Kr l)/\∀p∈l,Dp w b p.2 p.1.fields
def Ex.kp{J:List (Rd.Cls×Value)}{b:TW}(h:Ex w u i J)(c:Kp e u w b)(f:some 139≠e)(g:some 31≠e):Ex b u i J :=
 ⟨Cx h.1 c f,fun p j=>(h.2 p j).kp c g⟩
def Ex.mono{b':Nat}{J:List (Rd.Cls×Value)}(h:Ex w u i J)(c:b'<=u):Ex w b' i J:=⟨D8 h.1 c,fun p e=>(h.2 p e).mono c⟩
def Bo3 (w:TW)(b:Nat)(v:TX)(cs:List Rd.Cls):Prop:=∃l,l.map Prod.fst=cs/\Ex w b v l
def Mn (l:List (Rd.Mp × Value × Value)):List Value:=l.flatMap fun x=>[.int .i64 x.1.place,x.2.1,x.2.2]
def Xj(l:List (Rd.Mp×Value×Value))(x:Rd.Mp×Value×Value):Mn (l++[x])=Mn l++[.i x.1.place,x.2.1,x.2.2]:=by simp[Mn]
def Ob (w:TW)(b:Nat)(v:TX)(l:List (Rd.Mp × Value × Value)):Prop :=
 w.ownsRow b 266 3 v l.length (Mn l)/\∀p∈l,Dp w b p.2.1 p.1.locals/\Dp w b p.2.2 p.1.stack
def Ob.kp{l:List (Rd.Mp×Value×Value)}{b:TW}(h:Ob w u i l)(c:Kp e u w b)(j:some 266≠e)(f:some 31≠e):Ob b u i l :=
 ⟨Cx h.1 c j,fun p g=>⟨(h.2 p g).1.kp c f,(h.2 p g).2.kp c f⟩⟩
def Ob.mono{b':Nat}{l:List (Rd.Mp×Value×Value)}(h:Ob w u i l)(c:b'<=u):Ob w b' i l:=⟨D8 h.1 c,fun p e=>⟨(h.2 p e).1.mono c,(h.2 p e).2.mono c⟩⟩
def Bru (w:TW)(b:Nat)(v:TX)(ms:List Rd.Mp):Prop:=∃l,l.map Prod.fst=ms/\Ob w b v l
structure Eh where
 params:Value
 code:Value
 handlers:Value
 maps:Value
def Ly (m:Rd.Mth)(u:Eh):List Value :=
 [.int .i64 m.cl,.int .i64 m.name,u.params,.int .i64 m.result.1,.int .i64 m.result.2,.int .i64 m.locals,.int .i64 m.stack,u.code,u.handlers,u.maps]
def Xa (w:TW)(b:Nat)(m:Rd.Mth)(u:Eh):Prop :=
 Dp w b u.params m.params/\Du w b u.code m.code/\J5 w b u.handlers m.handlers/\Bru w b u.maps m.maps
def Xa.kp{F:Rd.Mth}{g:Eh}{b:TW}(h:Xa w u F g)(i:Kp e u w b)(j:some 31≠e)(p:some 3≠e)(q:some 267≠e)(s:some 266≠e):Xa b u F g:=by
 obtain⟨a,c,d,l,t,f⟩:=h;exact⟨a.kp i j,c.kp i p,d.kp i q,l,t,f.kp i s j⟩
def Xa.mono{b':Nat}{F:Rd.Mth}{e:Eh}(h:Xa w u F e)(g:b'<=u):Xa w b' F e:=by
 obtain⟨a,c,d,l,i,f⟩:=h;exact⟨a.mono g,c.mono g,d.mono g,l,i,f.mono g⟩
def Kw (l:List (Rd.Mth × Eh)):List Value:=l.flatMap fun x=>Ly x.1 x.2
def Ac(l:List (Rd.Mth×Eh))(x:Rd.Mth×Eh):Kw (l++[x])=Kw l++Ly x.1 x.2:=by simp[Kw]
def Eb (w:TW)(b:Nat)(v:TX)(l:List (Rd.Mth × Eh)):Prop :=
 w.ownsRow b 133 10 v l.length (Kw l)/\∀p∈l,Xa w b p.1 p.2
def Eb.kp{L:List (Rd.Mth×Eh)}{b:TW}(h:Eb w u i L)(c:Kp e u w b)(f:some 133≠e)(g:some 31≠e)(j:some 3≠e)(m:some 267≠e)(q:some 266≠e):Eb b u i L :=
 ⟨Cx h.1 c f,fun p s=>(h.2 p s).kp c g j m q⟩
def Eb.mono{b':Nat}{L:List (Rd.Mth×Eh)}(h:Eb w u i L)(c:b'<=u):Eb w b' i L:=⟨D8 h.1 c,fun p e=>(h.2 p e).mono c⟩
def Bo1 (w:TW)(b:Nat)(v:TX)(ms:List Rd.Mth):Prop:=∃l,l.map Prod.fst=ms/\Eb w b v l
def Bv(w:TW)(o b:Obj):((w.alloc o).alloc b).heap[w.heap.size+1]?=some b:=by
 have:=Bf (w.alloc o) b;simpa using this
def Cb(w:TW)(o b:Obj):((w.alloc o).alloc b).heap[w.heap.size]?=some o:=by
 rw[Bvu _ _ _ Fr];exact Bf w o
def Kp.set_lo{b g i:Nat}(f:g<b)(u:TX):Kp e b w (w.setCell (.a g i) u):=by
 intro k h t j c _;rw[Bvg _ _ _ _ Fm];exact c
def tys_len(s:TB)(n:Nat)(t:Rd.St):(Rd.tys s n t).1.length=n:=Rd.rep_len _ _ _
def Bom(s:ByteArray)(B:Nat)(t:Rd.St)(w:TW)(h:s.size<=maxLen)(C:Ev w B s t):Calls prog 156 #[.q B 0] w fun e j => ∃v,e=.r (.agg #[.i (Rd.cls s.data.toList t).1.above,v])/\Dp j w.heap.size v (Rd.cls s.data.toList t).1.fields/\Ev j B s (Rd.cls s.data.toList t).2/\Gr B w j:=by
 have a7:=C.lt;unfold Rd.cls;dsimp only;generalize L:Rd.nx s.data.toList t=b;generalize D:Rd.cn s.data.toList 0 4 b.2=l;have F:=Rd.cn_bd s.data.toList 0 4 b.2 Bd;rw[D]at F;obtain⟨N,a8⟩:=F;have O:=Bc L;have Q:=Bc D;go_in;go_wp2_with fail;refine(Ih s B t _ h ((C.alloc _).alloc _)).mono ?_;rw[Ba O];rintro e V ⟨rfl,Y,c⟩;have Z:=(((Gr.refl B w).alloc _).alloc _).trans c;have m:=c.own (Bv w _ _) Bd;have hc:=c.own (Cb w _ _) Bd;have p:=Bb m 0;have f0:=Bj m 0;simp only[Byh,Bxq]at p;go_wp2_with fail;refine(Ln s B 0 4 b.2 _ h (Y.set Fm _)).mono ?_;rw[Ba Q];rintro e w2 ⟨rfl,a0,f⟩;have G:=(Z.set (.inl Fr) _).trans f;have a1:=f.own (Bq m _) Bd;have a2:=f.own ((Bvg V ⟨w.heap.size+1,0,none⟩ (.i b.1) w.heap.size Fr).trans hc) Bd;have a3:=c.size;have a4:=f.size;simp at a3 a4;go_wp2_with fail;refine(Wx s B l.1 l.2 _ h N Bd a0).mono ?_;rintro e w3 ⟨v,rfl,I,a5,z⟩;obtain⟨va,vc,rfl⟩:=Bg I;have a6:=G.size;have A:=z.own a1 Bd;have g:=z.own a2 Bd;have k1:=Bb A 1;have f1:=Bj A 1;have p:=Bb A 0;have J:=Bb g 0;have f2:=Bj g 0;have K:=Bb g 1;have f3:=Bj g 1;simp at p k1 J K;go_wp2_with fail;refine tb (.agg #[.i b.1,.s va l.1.toNat vc]) (by simp[results,results156,go_sem,J,K]) ?_;refine⟨_,rfl,?_,((a5.set Fm _).set Fm _).set Fm _,(((G.trans z).set (.inl Fr) _).set (.inl Fr) _).set (.inl Fr) _⟩;unfold Dp;rw[tys_len];exact D8 (Bx3 (Bx3 (Bx3 I Fm _) Fm _) Fm _) a6
def Tryz.infoInt:(prog.info? 3).map (fun i=>(i.zero,i.size,i.bytes))=some (some (.i 0),1,8):=Le
def Tryz.infoHandler:(prog.info? 267).map (fun i=>(i.zero,i.size,i.bytes))=some (some (.agg #[.i 0,.i 0,.i 0,.i 0]),4,32):=Le
def Bq5(s:ByteArray)(B:Nat)(t:Rd.St)(w:TW)(h:s.size<=maxLen)(j:Ev w B s t):Calls prog 207 #[.q B 0] w fun e b => ∃v,e=.returned v/\Du b w.heap.size v (Rd.codes s.data.toList t).1/\Ev b B s (Rd.codes s.data.toList t).2/\Gr B w b:=by
 have l:=j.lt;obtain⟨K,L,N,O,Q⟩:=Bv4 Tryz.infoInt;unfold Rd.codes Du;dsimp only;rw[Rd.rep_len];generalize m:Rd.cn s.data.toList 1 120 t=r;have z:=Rd.cn_bd s.data.toList 1 120 t Bd;rw[m]at z;obtain⟨a5,a6⟩:=z;have H:=Bc m;go_in;go_wp2_with fail;refine(Ln s B 1 120 t _ h j).mono ?_;rw[Ba H];rintro e w0 ⟨rfl,V,A⟩;have a7:=A.size;go_wp2
 go_loopw [3,5] (fun v i wr=>∃k:Nat,(k:Int)<=r.1/\i=.i k/\wr.ownsRow w.heap.size 3 1 v k ((Rd.rep (Rd.nx s.data.toList) k r.2).1.map (Value.int .i64))/\Ev wr B s (Rd.rep (Rd.nx s.data.toList) k r.2).2/\Gr B w wr)
  (fun _ i _=>r.1.toNat-(intOf i).toNat)
 case atStart=>exact⟨0,Bd,rfl,Bvl _ _ _ _,V,A⟩
 case round=>
  obtain⟨k,hk,rfl,C,D,c⟩:=hrel;have a8:=c.size;by_cases a9:(k:Int)<r.1
  ·generalize Y:Rd.rep (Rd.nx s.data.toList) k r.2=p at *;generalize Z:Rd.nx s.data.toList p.2=q at *;have HP:=Bc Y;have F:=Bc Z;go_wp2_with fail;refine(Ih s B p.2 _ h D).mono ?_;rw[Ba F];rintro e w1 ⟨rfl,a0,f⟩;have b0:=f.size;have g:=Bb9 C f l;go_wp2_with (at_builtin;refine Bvw _ rfl _ _ 26 rfl w.heap.size 3 K _ 1 8 Bxs L N O Q rfl Ck _ _ _ rfl (g.alloc _) ⟨w1.heap.size,0,none⟩ 1 1 [.i q.1] rfl rfl ?c1 ?c2 ?c3 ?c4 ?c5 ?_)
   case c1=>exact Dv _ _ _ _ rfl
   case c2=>intro u G;simp at G;subst G;rfl
   case c3=>unfold maxLen;omega
   case c4=>omega
   case c5=>simp;omega
   intro v' w2 a1 I _;have a2:=(a0.alloc _).grown I (Xv g l);have a3:=((c.trans f).alloc _).grown I (Xw g);have e1:(Rd.rep (Rd.nx s.data.toList) (k+1) r.2)=(p.1++[q.1],q.2):=by simp only[Rd.rep,Ba HP,Ba F]
   have a4:w2.ownsRow w.heap.size 3 1 v' (k+1) ((p.1++[q.1]).map (Value.int .i64)):=by simpa using a1
   have J:=Bc e1;go_wp2;go_roundw
   case rel=>exact⟨k+1,Bd,Lt,by rw[Ba J];exact a4,by rw[Ba J];exact a2,a3⟩
   case measure=>simp[intOf];omega
  have e:k=r.1.toNat:=Bd;subst e;go_wp2;go_ret;exact⟨_,rfl,C,D,c⟩
def Bg9(s:ByteArray)(B:Nat)(t:Rd.St)(w:TW)(h:s.size<=maxLen)(J:Ev w B s t):Calls prog 208 #[.q B 0] w fun e z => ∃v,e=.returned v/\J5 z w.heap.size v (Rd.hnds s.data.toList t).1/\Ev z B s (Rd.hnds s.data.toList t).2/\Gr B w z:=by
 have K:=J.lt;obtain⟨i0,hi,a7,a8,a9⟩:=Bv4 Tryz.infoHandler;unfold Rd.hnds J5;dsimp only;rw[Rd.rep_len];generalize L:Rd.cn s.data.toList 0 4 t=r;have N:=Rd.cn_bd s.data.toList 0 4 t Bd;rw[L]at N;obtain⟨d5,d6⟩:=N;have H:=Bc L;go_in;go_wp2_with fail;refine(Ln s B 0 4 t _ h J).mono ?_;rw[Ba H];rintro e w0 ⟨rfl,b0,O⟩;have d7:=O.size;go_wp2
 go_loopw [3,5] (fun v i wr=>∃k:Nat,(k:Int)<=r.1/\i=.i k/\wr.ownsRow w.heap.size 267 4 v k (Et (Rd.rep (Rd.hnd s.data.toList) k r.2).1)/\Ev wr B s (Rd.rep (Rd.hnd s.data.toList) k r.2).2/\Gr B w wr)
  (fun _ i _=>r.1.toNat-(intOf i).toNat)
 case atStart=>exact⟨0,Bd,rfl,Bvl _ _ _ _,b0,O⟩
 case round=>
  obtain⟨k,hk,rfl,Q,V,A⟩:=hrel;have d8:=A.size;by_cases d9:(k:Int)<r.1
  ·generalize hp:Rd.rep (Rd.hnd s.data.toList) k r.2=p at *;generalize Y:Rd.nx s.data.toList p.2=c;generalize Z:Rd.nx s.data.toList c.2=f;generalize a0:Rd.nx s.data.toList f.2=g;generalize a1:Rd.nx s.data.toList g.2=b;have HQ:Hid (Rd.hnd s.data.toList p.2=(⟨c.1,f.1,g.1,b.1⟩,b.2)):=by
    unfold Hid Rd.hnd;simp only[Y,Z,a0,a1]
   have HP:=Bc hp;have b1:=Bc Y;have b2:=Bc Z;have b3:=Bc a0;have b4:=Bc a1;have j:wr.heap.size≠B:=Bd;go_wp2_with fail;refine(Ih s B p.2 _ h (V.alloc _)).mono ?_;rw[Ba b1];rintro e w1 ⟨rfl,b5,a2⟩;have b6:=((Gr.refl B wr).alloc _).trans a2;have C:=a2.own (Bf wr _) j;have D:=Bb C 0;have f0:=Bj C 0;simp at D;go_wp2_with fail;refine(Ih s B c.2 _ h (b5.set Fm _)).mono ?_;rw[Ba b2];rintro e w2 ⟨rfl,b7,a3⟩;have b8:=(b6.set (.inl Fr) _).trans a3;have l:=a3.own (Bq C _) j;simp at l;have c1:=Bb l 1;have f1:=Bj l 1;simp at c1;go_wp2_with fail;refine(Ih s B f.2 _ h (b7.set Fm _)).mono ?_;rw[Ba b3];rintro e w3 ⟨rfl,b9,a4⟩;have c6:=(b8.set (.inl Fr) _).trans a4;have m:=a4.own (Bq l _) j;simp at m;have c2:=Bb m 2;have f2:=Bj m 2;simp at c2;go_wp2_with fail;refine(Ih s B g.2 _ h (b9.set Fm _)).mono ?_;rw[Ba b4];rintro e w4 ⟨rfl,c7,a5⟩;have c8:=(c6.set (.inl Fr) _).trans a5;have F:=a5.own (Bq m _) j;simp at F;obtain⟨D,c1,c2,c3⟩:=cl4 F;have f3:=Bj F 3;simp at D c1 c2 c3;have G:=c8.set (p:=.a wr.heap.size 3) (.inl Fr) (.i b.1);have I:=Bb9 Q G K;have c9:=c7.set (p:=.a wr.heap.size 3) Fm (.i b.1);have d0:=G.size;go_wp2_with (at_builtin;refine Bvw _ rfl _ _ 130 rfl w.heap.size 267 i0 _ 4 32 underlying130 hi a7 a8 a9 rfl Ck _ _ _ rfl (I.alloc _) ⟨w4.heap.size,0,none⟩ 1 1 [.i c.1,.i f.1,.i g.1,.i b.1] rfl rfl ?c1 ?c2 ?c3 ?c4 ?c5 ?_)
   case c1=>exact Dv _ _ _ _ Fr
   case c2=>intro u hu;simp at hu;rcases hu with rfl|rfl|rfl|rfl<;>rfl
   case c3=>unfold maxLen;omega
   case c4=>omega
   case c5=>simp at d0 ⊢;omega
   intro v' w5 d1 a6 _;have d2:=(c9.alloc _).grown a6 (Xv I K);have d3:=((A.trans G).alloc _).grown a6 (Xw I);have e1:(Rd.rep (Rd.hnd s.data.toList) (k+1) r.2)=(p.1++[⟨c.1,f.1,g.1,b.1⟩],b.2):=by simp only[Rd.rep,Ba HP,Ba HQ]
   have d4:w5.ownsRow w.heap.size 267 4 v' (k+1) (Et (p.1++[⟨c.1,f.1,g.1,b.1⟩])):=by rw[Baw];exact d1
   have HE:=Bc e1;go_wp2;go_roundw
   case rel=>exact⟨k+1,Bd,Lt,by rw[Ba HE];exact d4,by rw[Ba HE];exact d2,d3⟩
   case measure=>simp[intOf];omega
  have e:k=r.1.toNat:=Bd;subst e;go_wp2;go_ret;exact⟨_,rfl,Q,V,A⟩
def Tryz.infoMap:(prog.info? 266).map (fun i=>(i.zero,i.size,i.bytes))=some (some (.agg #[.i 0,.s none 0 0,.s none 0 0]),3,56):=Le
def Bqi(s:ByteArray)(B:Nat)(L H:Int)(t:Rd.St)(w:TW)(G:s.size<=maxLen)(f4:0<=L)(h2:L<=8)(f5:0<=H)(h3:H<=8)(hR:Ev w B s t):Calls prog 209 #[.q B 0,.i L,.i H] w fun e w' => ∃v l,e=.returned v/\l.map Prod.fst=(Rd.mps s.data.toList L H t).1/\Ob w' w.heap.size v l/\Ev w' B s (Rd.mps s.data.toList L H t).2/\Gr B w w':=by
 have m:=hR.lt;obtain⟨i0,hi,f6,f7,f8⟩:=Bv4 Tryz.infoMap;unfold Rd.mps;dsimp only;generalize hr:Rd.cn s.data.toList 0 64 t=r;have b4:=Rd.cn_bd s.data.toList 0 64 t Bd;rw[hr]at b4;obtain⟨h4,h5⟩:=b4;have HR:=Bc hr;clear hr;go_in;go_wp2_with fail;refine(Ln s B 0 64 t _ G hR).mono ?_;rw[Ba HR];rintro e w0 ⟨rfl,f9,b5⟩;have h6:=b5.size;go_wp2
 go_loopw [7,9] (fun v i wr=>∃(k:Nat) (l:List (Rd.Mp×Value×Value)),(k:Int)<=r.1/\i=.i k/\l.length=k/\l.map Prod.fst=(Rd.rep (Rd.mp s.data.toList L H) k r.2).1/\Ob wr w.heap.size v l/\Ev wr B s (Rd.rep (Rd.mp s.data.toList L H) k r.2).2/\Gr B w wr)
  (fun _ i _=>r.1.toNat-(intOf i).toNat)
 case atStart=>exact⟨0,[],Bd,rfl,rfl,rfl,⟨Bvl _ _ _ _,Fr⟩,f9,b5⟩
 case round=>
  obtain⟨k,l,hk,rfl,b6,a5,I,a6,N⟩:=hrel;have h7:=N.size;by_cases h8:(k:Int)<r.1
  ·generalize c:Rd.rep (Rd.mp s.data.toList L H) k r.2=p at *;generalize a7:Rd.nx s.data.toList p.2=z;generalize O:Rd.tys s.data.toList L.toNat z.2=h;generalize Q:Rd.cn s.data.toList 0 H h.2=f;generalize V:Rd.tys s.data.toList f.1.toNat f.2=j;have l2:h.1.length=L.toNat:=by rw[<- O];exact tys_len _ _ _
   have l4:j.1.length=f.1.toNat:=by rw[<- V];exact tys_len _ _ _
   have b7:=Rd.cn_bd s.data.toList 0 H h.2 f5;rw[Q]at b7;obtain⟨g0,h9⟩:=b7;have HQ:Hid (Rd.mp s.data.toList L H p.2=(⟨z.1,h.1,j.1⟩,j.2)):=by
    unfold Hid Rd.mp;simp only[a7,O,Q,V]
   have HP:=Bc c;have g1:=Bc a7;have g2:=Bc O;have g3:=Bc Q;have g4:=Bc V;have g5:=Bc l2;have g6:=Bc l4;have a8:=Bc b6;have g7:=Bc a5;clear c a7 O Q V l2 l4 b6 a5;have Y:wr.heap.size≠B:=Bd;go_wp2_with fail;refine(Ih s B p.2 _ G (a6.alloc _)).mono ?_;rw[Ba g1];rintro e w1 ⟨rfl,b8,Z⟩;have b9:=((Gr.refl B wr).alloc _).trans Z;have a0:=Z.own (Bf wr _) Y;have s1:=Z.size;simp at s1;have J:=Bb a0 0;have f0:=Bj a0 0;simp at J;go_wp2_with fail;clear J f0;refine(Wx s B L z.2 _ G f4 Bd (b8.set Fm _)).mono ?_;rw[Ba g2];rintro e w2 ⟨v1,rfl,a9,c6,b0⟩;obtain⟨va,vc,rfl⟩:=Bg a9;have c7:=(b9.set (.inl Fr) _).trans b0;have A:=b0.own (Bq a0 _) Y;simp at A;have c1:=Bb A 1;have f1:=Bj A 1;simp at c1;have c8:Dp w2 w.heap.size (.s va L.toNat vc) h.1:=by
    unfold Dp;rw[Ba g5];exact D8 a9 Fm
   clear a9;go_wp2_with fail;clear c1 f1;refine(Ln s B 0 H h.2 _ G (c6.set Fm _)).mono ?_;rw[Ba g3];rintro e w3 ⟨rfl,c9,a1⟩;have b1:=(c7.set (.inl Fr) _).trans a1;have b2:=a1.own (Bq A _) Y;simp at b2;have d0:=(c8.kp (Kp.set (i:=1) A (.s va L.toNat vc)) Ck).kp (Kp.of_gr (e:=none) a1 m) Ck;clear c8;go_wp2_with fail;refine(Wx s B f.1 f.2 _ G g0 Bd c9).mono ?_;rw[Ba g4];rintro e w4 ⟨v2,rfl,b3,d1,a2⟩;obtain⟨C,D,rfl⟩:=Bg b3;have d2:=b1.trans a2;have a3:=a2.own b2 Y;have d3:=d0.kp (Kp.of_gr (e:=none) a2 m) Ck;have s3:=b1.size;have d4:Dp w4 w.heap.size (.s C f.1.toNat D) j.1:=by
    unfold Dp;rw[Ba g6];exact D8 b3 Bd
   clear b3 d0;obtain⟨J,c1,c2⟩:=cl3 a3;have f2:=Bj a3 2;simp at J c1 c2;have g:=Kp.set (b:=w.heap.size) (i:=2) a3 (.s C f.1.toNat D);have F:=d2.set (p:=.a wr.heap.size 2) (.inl Fr) (.s C f.1.toNat D);have K:=Bb9 I.1 F m;have d5:=fun p c=>Bxh ((I.2 p c).1.kp (Kp.of_gr (e:=none) F m) Ck) ((I.2 p c).2.kp (Kp.of_gr (e:=none) F m) Ck);have d6:=d3.kp g Ck;have d7:=d4.kp g Ck;have d8:=d1.set (p:=.a wr.heap.size 2) Fm (.s C f.1.toNat D);have g8:=F.size;have d9:=Bc d5;clear d5 a0 A b2 a3 Z b0 a1 a2 b9 c7 b1 d2 b8 c6 c9 d1 d3 d4 g;go_wp2_with (at_builtin;refine Bvw _ rfl _ _ 131 rfl w.heap.size 266 i0 _ 3 56 underlying131 hi f6 f7 f8 rfl Ck _ _ _ rfl (K.alloc _) ⟨w4.heap.size,0,none⟩ 1 1 [.i z.1,.s va L.toNat vc,.s C f.1.toNat D] rfl rfl ?c1 ?c2 ?c3 ?c4 ?c5 ?_)
   case c1=>exact Dv _ _ _ _ Fr
   case c2=>intro u hu;simp at hu;rcases hu with rfl|rfl|rfl<;>rfl
   case c3=>have:=Ba a8;unfold maxLen;omega
   case c4=>have:=Ba a8;omega
   case c5=>simp at g8 ⊢;omega
   intro v' w5 f3 a4 _;have g9:=(d8.alloc _).grown a4 (Xv K m);have h0:=((N.trans F).alloc _).grown a4 (Xw K);have g:=(Kp.alloc (e:=some 266) (b:=w.heap.size) _ _).trans (Kp.of_grown a4 (K.alloc _));have h1:Ob w5 w.heap.size v' (l++[(⟨z.1,h.1,j.1⟩,.s va L.toNat vc,.s C f.1.toNat D)]):=by
    refine⟨?_,?_⟩
    ·rw[Xj,Up];exact f3
    intro p c;rw[Bwt]at c;rcases c with c|c
    ·exact⟨(Ba d9 p c).1.kp g Ck,(Ba d9 p c).2.kp g Ck⟩
    simp only[Bxa]at c;subst c;exact⟨d6.kp g Ck,d7.kp g Ck⟩
   have e1:(Rd.rep (Rd.mp s.data.toList L H) (k+1) r.2)=(p.1++[⟨z.1,h.1,j.1⟩],j.2):=by simp only[Rd.rep,Ba HP,Ba HQ]
   have HE:=Bc e1;have HK:=Bc g;clear e1 a4 K f3 a6 d8 F N J c1 c2 f2 g d6 d7 I;go_wp2;go_roundw
   case rel=>exact⟨k+1,_,Bd,Lt,by rw[Up,Ba a8];rfl,by rw[Ba HE,Bvx,Ba g7];rfl,h1,by rw[Ba HE];exact g9,h0⟩
   case measure=>simp[intOf];omega
  have e:k=r.1.toNat:=Bd;subst e;go_wp2;go_ret;exact⟨_,rfl,l,a5,I,a6,N⟩
def D7{o:Obj}(h:w.heap[k]?=some o){p:Addr}(b:k≠p.block)(u:TX):(w.setCell p u).heap[k]?=some o:=by
 rw[Bvg _ _ _ _ b];exact h
def Bkt(s:ByteArray)(B:Nat)(t:Rd.St)(w:TW)(m:s.size<=maxLen)(hR:Ev w B s t):Calls prog 157 #[.q B 0] w fun e w' => ∃a1 m1 d1 a2 m2 d2 a3 m3 d3 v m4 z,e=.r (.agg #[.i (Rd.mth s.data.toList t).1.cl,.i (Rd.mth s.data.toList t).1.name,.s a1 m1 d1,.i (Rd.mth s.data.toList t).1.result.1,.i (Rd.mth s.data.toList t).1.result.2,.i (Rd.mth s.data.toList t).1.locals,.i (Rd.mth s.data.toList t).1.stack,.s a2 m2 d2,.s a3 m3 d3,.s v m4 z])/\Xa w' w.heap.size (Rd.mth s.data.toList t).1 ⟨.s a1 m1 d1,.s a2 m2 d2,.s a3 m3 d3,.s v m4 z⟩/\Ev w' B s (Rd.mth s.data.toList t).2/\Gr B w w':=by
 have G:=hR.lt;unfold Rd.mth;dsimp only;generalize i0:Rd.nx s.data.toList t=Q;generalize i1:Rd.nx s.data.toList Q.2=K;generalize h1:Rd.cn s.data.toList 0 4 K.2=h;generalize h2:Rd.tys s.data.toList h.1.toNat h.2=q4;generalize i2:Rd.ty s.data.toList q4.2=g;generalize h3:Rd.cn s.data.toList 0 8 g.2=j;generalize h4:Rd.cn s.data.toList 0 8 j.2=A;generalize i3:Rd.codes s.data.toList A.2=I;generalize i4:Rd.hnds s.data.toList I.2=C;generalize i5:Rd.mps s.data.toList j.1 A.1 C.2=k4;have l4:q4.1.length=h.1.toNat:=by rw[<- h2];exact tys_len _ _ _
 have b3:=Rd.cn_bd s.data.toList 0 4 K.2 Bd;have b6:=Rd.cn_bd s.data.toList 0 8 g.2 Bd;have b7:=Rd.cn_bd s.data.toList 0 8 j.2 Bd;rw[h1]at b3;rw[h3]at b6;rw[h4]at b7;obtain⟨i6,k5⟩:=b3;obtain⟨i7,i8⟩:=b6;obtain⟨i9,j0⟩:=b7;have j1:=Bc l4;have Q1:=Bc i0;have Q2:=Bc i1;have Q3:=Bc h1;have Q4:=Bc h2;have Q5:=Bc i2;have Q6:=Bc h3;have Q7:=Bc h4;have Q8:=Bc i3;have Q9:=Bc i4;have j2:=Bc i5;have D:w.heap.size+1≠B:=Bd;have F:w.heap.size≠B:=Bd;go_in;go_wp2_with fail;refine(Ih s B t _ m ((hR.alloc _).alloc _)).mono ?_;rw[Ba Q1];rintro e w1 ⟨rfl,j3,b0⟩;have G1:=(((Gr.refl B w).alloc _).alloc _).trans b0;have B1:=b0.own (Bv w _ _) D;have C1:=b0.own (Cb w _ _) F;have S1:=b0.size;simp at S1;have c0:=Bb B1 0;have f0:=Bj B1 0;simp at c0;go_wp2_with fail;refine(Ih s B Q.2 _ m (j3.set Fm _)).mono ?_;rw[Ba Q2];rintro e w2 ⟨rfl,j4,d5⟩;have G2:=(G1.set (.inl Fr) _).trans d5;have B2:=d5.own (Bq (i:=0) B1 (.i Q.1)) D;have C2:=d5.own (D7 C1 (p:=.a (w.heap.size+1) 0) Fr (.i Q.1)) F;simp at B2;have S2:=G2.size;have c1:=Bb B2 1;have f1:=Bj B2 1;simp at c1;go_wp2_with fail;refine(Ln s B 0 4 K.2 _ m (j4.set Fm _)).mono ?_;rw[Ba Q3];rintro e w3 ⟨rfl,j5,d6⟩;have G3:=(G2.set (.inl Fr) _).trans d6;have B3:=d6.own (Bq (i:=1) B2 (.i K.1)) D;have C3:=d6.own (D7 C2 (p:=.a (w.heap.size+1) 1) Fr (.i K.1)) F;simp at B3;have S3:=G3.size;go_wp2_with fail;refine(Wx s B h.1 h.2 _ m i6 Bd j5).mono ?_;rw[Ba Q4];rintro e w4 ⟨v4,rfl,h5,j6,d7⟩;have G4:=G3.trans d7;have B4:=d7.own B3 D;have C4:=d7.own C3 F;have S4:=G4.size;obtain⟨v,z,rfl⟩:=Bg h5;have c:Dp w4 w.heap.size (.s v h.1.toNat z) q4.1:=by
  unfold Dp;rw[Ba j1];exact D8 h5 Bd
 have c2:=Bb B4 2;have f2:=Bj B4 2;simp at c2;have c:=c.kp (Kp.set (i:=2) B4 (.s v h.1.toNat z)) Ck;go_wp2_with fail;refine(Bar s B q4.2 _ m (j6.set Fm _)).mono ?_;rw[Ba Q5];rintro e w5 ⟨rfl,j7,b1⟩;have G5:=(G4.set (.inl Fr) _).trans b1;have L:=b1.own (Bq (i:=2) B4 (.s v h.1.toNat z)) D;have C5:=b1.own (D7 C4 (p:=.a (w.heap.size+1) 2) Fr (.s v h.1.toNat z)) F;simp at L;have S5:=G5.size;have c:=(c).kp (Kp.of_gr (e:=none) b1 G) Ck;have c3:=Bb L 3;have f3:=Bj L 3;simp at c3;have c4:=Bb L 4;have f4:=Bj L 4;simp at c4;have c:=c.kp (Kp.set (i:=3) L (.i g.1.1)) Ck;have c:=c.kp (Kp.set (i:=4) (Bq (i:=3) L (.i g.1.1)) (.i g.1.2)) Ck;go_wp2_with fail;refine(Ln s B 0 8 g.2 _ m ((j7.set Fm _).set Fm _)).mono ?_;rw[Ba Q6];rintro e w6 ⟨rfl,j8,b2⟩;have G6:=((G5.set (.inl Fr) _).set (.inl Fr) _).trans b2;have B6:=b2.own (Bq (i:=4) (Bq (i:=3) L (.i g.1.1)) (.i g.1.2)) D;have C6:=b2.own (D7 (D7 C5 (p:=.a (w.heap.size+1) 3) Fr (.i g.1.1)) (p:=.a (w.heap.size+1) 4) Fr (.i g.1.2)) F;simp at B6;have S6:=G6.size;have c:=(c).kp (Kp.of_gr (e:=none) b2 G) Ck;have c5:=Bb B6 5;have f5:=Bj B6 5;simp at c5;have c:=c.kp (Kp.set (i:=5) B6 (.i j.1)) Ck;go_wp2_with fail;refine(Ln s B 0 8 j.2 _ m (j8.set Fm _)).mono ?_;rw[Ba Q7];rintro e w7 ⟨rfl,j9,b4⟩;have G7:=(G6.set (.inl Fr) _).trans b4;have B7:=b4.own (Bq (i:=5) B6 (.i j.1)) D;have C7:=b4.own (D7 C6 (p:=.a (w.heap.size+1) 5) Fr (.i j.1)) F;simp at B7;have S7:=G7.size;have c:=(c).kp (Kp.of_gr (e:=none) b4 G) Ck;have c6:=Bb B7 6;have f6:=Bj B7 6;simp at c6;have c:=c.kp (Kp.set (i:=6) B7 (.i A.1)) Ck;go_wp2_with fail;refine(Bq5 s B A.2 _ m (j9.set Fm _)).mono ?_;rw[Ba Q8];rintro e w8 ⟨v8,rfl,h6,k0,b5⟩;have G8:=(G7.set (.inl Fr) _).trans b5;have B8:=b5.own (Bq (i:=6) B7 (.i A.1)) D;have C8:=b5.own (D7 C7 (p:=.a (w.heap.size+1) 6) Fr (.i A.1)) F;simp at B8;have S8:=G8.size;obtain⟨V,Y,rfl⟩:=Bg h6;have l:=h6.mono (b':=w.heap.size) Fm;have c:=(c).kp (Kp.of_gr (e:=none) b5 G) Ck;have c7:=Bb B8 7;have f7:=Bj B8 7;simp at c7;have c:=c.kp (Kp.set (i:=7) B8 (.s V I.1.length Y)) Ck;have l:=l.kp (Kp.set (i:=7) B8 (.s V I.1.length Y)) Ck;go_wp2_with fail;refine(Bg9 s B I.2 _ m (k0.set Fm _)).mono ?_;rw[Ba Q9];rintro e w9 ⟨v9,rfl,h7,k1,a5⟩;have G9:=(G8.set (.inl Fr) _).trans a5;have J:=a5.own (Bq (i:=7) B8 (.s V I.1.length Y)) D;have C9:=a5.own (D7 C8 (p:=.a (w.heap.size+1) 7) Fr (.s V I.1.length Y)) F;simp at J;have S9:=G9.size;obtain⟨N,O,rfl⟩:=Bg h7;have Z:=h7.mono (b':=w.heap.size) Fm;have c:=(c).kp (Kp.of_gr (e:=none) a5 G) Ck;have l:=(l).kp (Kp.of_gr (e:=none) a5 G) Ck;have c8:=Bb J 8;have f8:=Bj J 8;simp at c8;have c:=c.kp (Kp.set (i:=8) J (.s N C.1.length O)) Ck;have l:=l.kp (Kp.set (i:=8) J (.s N C.1.length O)) Ck;have Z:=Z.kp (Kp.set (i:=8) J (.s N C.1.length O)) Ck;have c5:=Bb J 5;have c6:=Bb J 6;simp at c5 c6;go_wp2_with fail;refine(Bqi s B j.1 A.1 C.2 _ m i7 i8 i9 j0 (k1.set Fm _)).mono ?_;rw[Ba j2];rintro e k6 ⟨k7,a6,rfl,k2,h8,k3,a0⟩;have h9:=(G9.set (.inl Fr) _).trans a0;have a7:=a0.own (Bq (i:=8) J (.s N C.1.length O)) D;have f:=a0.own (D7 C9 (p:=.a (w.heap.size+1) 8) Fr (.s N C.1.length O)) F;simp at a7;have k8:=h9.size;obtain⟨b8,b9,rfl⟩:=Bg h8.1;have h0:=h8.mono (b':=w.heap.size) Fm;have c:=(c).kp (Kp.of_gr (e:=none) a0 G) Ck;have l:=(l).kp (Kp.of_gr (e:=none) a0 G) Ck;have Z:=(Z).kp (Kp.of_gr (e:=none) a0 G) Ck;have c9:=Bb a7 9;have f9:=Bj a7 9;simp at c9;obtain⟨c0,c1,c2,c3,c4,c5,c6,c7,c8⟩:=cl9 a7;simp at c0 c1 c2 c3 c4 c5 c6 c7 c8;have z0:=Bb f 0;have g0:=Bj f 0;have z1:=Bb f 1;have g1:=Bj f 1;have z2:=Bb f 2;have g2:=Bj f 2;have z3:=Bb f 3;have g3:=Bj f 3;have z4:=Bb f 4;have g4:=Bj f 4;have z5:=Bb f 5;have g5:=Bj f 5;have z6:=Bb f 6;have g6:=Bj f 6;have z7:=Bb f 7;have g7:=Bj f 7;have z8:=Bb f 8;have g8:=Bj f 8;have z9:=Bb f 9;have g9:=Bj f 9;simp at z0 z1 z2 z3 z4 z5 z6 z7 z8 z9;have d0:=Kp.set (b:=w.heap.size) (i:=9) a7 (.s b8 a6.length b9);have c:=c.kp d0 Ck;have l:=l.kp d0 Ck;have Z:=Z.kp d0 Ck;have h0:=h0.kp d0 Ck Ck;go_wp2_with fail;refine tb (.agg #[.i Q.1,.i K.1,.s v h.1.toNat z,.i g.1.1,.i g.1.2,.i j.1,.i A.1,.s V I.1.length Y,.s N C.1.length O,.s b8 a6.length b9]) (by simp[results,results157,go_sem,z0,z1,z2,z3,z4,z5,z6,z7,z8,z9]) ?_;refine⟨_,_,_,_,_,_,_,_,_,_,_,_,rfl,?_,?_,?_⟩;have E0:=(D7 f (p:=.a (w.heap.size+1) 9) Fr (.s b8 a6.length b9));have F0:=Kp.set (b:=w.heap.size) (i:=0) E0 (.i Q.1);have E1:=Bq (i:=0) E0 (.i Q.1);have F1:=F0.trans (Kp.set (b:=w.heap.size) (i:=1) E1 (.i K.1));have E2:=Bq (i:=1) E1 (.i K.1);have F2:=F1.trans (Kp.set (b:=w.heap.size) (i:=2) E2 (.s v h.1.toNat z));have E3:=Bq (i:=2) E2 (.s v h.1.toNat z);have F3:=F2.trans (Kp.set (b:=w.heap.size) (i:=3) E3 (.i g.1.1));have E4:=Bq (i:=3) E3 (.i g.1.1);have F4:=F3.trans (Kp.set (b:=w.heap.size) (i:=4) E4 (.i g.1.2));have E5:=Bq (i:=4) E4 (.i g.1.2);have F5:=F4.trans (Kp.set (b:=w.heap.size) (i:=5) E5 (.i j.1));have E6:=Bq (i:=5) E5 (.i j.1);have F6:=F5.trans (Kp.set (b:=w.heap.size) (i:=6) E6 (.i A.1));have E7:=Bq (i:=6) E6 (.i A.1);have F7:=F6.trans (Kp.set (b:=w.heap.size) (i:=7) E7 (.s V I.1.length Y));have E8:=Bq (i:=7) E7 (.s V I.1.length Y);have F8:=F7.trans (Kp.set (b:=w.heap.size) (i:=8) E8 (.s N C.1.length O));have E9:=Bq (i:=8) E8 (.s N C.1.length O);have F9:=F8.trans (Kp.set (b:=w.heap.size) (i:=9) E9 (.s b8 a6.length b9))
 ·exact⟨c.kp F9 Ck,l.kp F9 Ck,Z.kp F9 Ck,a6,k2,h0.kp F9 Ck Ck⟩
 ·exact(((((((((((k3.set Fm _).set Fm _).set Fm _).set Fm _).set Fm _).set Fm _).set Fm _).set Fm _).set Fm _).set Fm _).set Fm _)
 exact(((((((((((h9.set (.inl Fr) _).set (.inl Fr) _).set (.inl Fr) _).set (.inl Fr) _).set (.inl Fr) _).set (.inl Fr) _).set (.inl Fr) _).set (.inl Fr) _).set (.inl Fr) _).set (.inl Fr) _).set (.inl Fr) _)
def Tryz.infoClass:(prog.info? 139).map (fun i=>(i.zero,i.size,i.bytes))=some (some (.agg #[.i 0,.s none 0 0]),2,32):=Le
def Tryz.infoMethod:(prog.info? 133).map (fun i=>(i.zero,i.size,i.bytes))=some (some (.agg #[.i 0,.i 0,.s none 0 0,.i 0,.i 0,.i 0,.i 0,.s none 0 0,.s none 0 0,.s none 0 0]),10,144):=Le
def Bbn(s:ByteArray)(B:Nat)(t:Rd.St)(w:TW)(hs:s.size<=maxLen)(hR:Ev w B s t):Calls prog 104 #[.q B 0] w fun e w' => ∃a1 K c1 a2 n2 c2 l1 l2,e=.r (.agg #[.s a1 K c1,.s a2 n2 c2])/\l1.map Prod.fst=(Rd.fil s.data.toList t).1.classes/\Ex w' w.heap.size (.s a1 K c1) l1/\l2.map Prod.fst=(Rd.fil s.data.toList t).1.methods/\Eb w' w.heap.size (.s a2 n2 c2) l2/\Ev w' B s (Rd.fil s.data.toList t).2/\Gr B w w':=by
 have a8:=hR.lt;obtain⟨i0,hi,f4,f5,f6⟩:=Bv4 Tryz.infoClass;obtain⟨j0,hj,f7,f8,f9⟩:=Bv4 Tryz.infoMethod;unfold Rd.fil;dsimp only;generalize d6:Rd.ex s.data.toList 83 t=q1;generalize d7:Rd.ex s.data.toList 77 q1=q2;generalize b8:Rd.cn s.data.toList 0 6 q2=C;generalize d8:Rd.rep (Rd.cls s.data.toList) C.1.toNat C.2=q4;generalize b9:Rd.cn s.data.toList 1 6 q4.2=q5;have b3:=Rd.cn_bd s.data.toList 0 6 q2 Bd;rw[b8]at b3;obtain⟨g9,h0⟩:=b3;have b5:=Rd.cn_bd s.data.toList 1 6 q4.2 Bd;rw[b9]at b5;obtain⟨h1,h2⟩:=b5;have Q4:=Bc d8;have Q5:=Bc b9;have Q1:=Bc d6;have Q2:=Bc d7;have Q3:=Bc b8;clear d6 d7 b8 d8 b9;have K:w.heap.size+1≠B:=Bd;have n0:w.heap.size≠B:=Bd;go_in;go_wp2_with fail;refine(Bcn s B 83 t _ hs ((hR.alloc _).alloc _)).mono ?_;rw[Ba Q1];rintro e w1 ⟨rfl,d9,b2⟩;have G1:=(((Gr.refl B w).alloc _).alloc _).trans b2;have B1:=b2.own (Bv w _ _) K;have C1:=b2.own (Cb w _ _) n0;go_wp2_with fail;refine(Bcn s B 77 q1 _ hs d9).mono ?_;rw[Ba Q2];rintro e w2 ⟨rfl,f2,b4⟩;have G2:=G1.trans b4;have B2:=b4.own B1 K;have C2:=b4.own C1 n0;go_wp2_with fail;refine(Ln s B 0 6 q2 _ hs f2).mono ?_;rw[Ba Q3];rintro e w3 ⟨rfl,f3,b6⟩;have G3:=G2.trans b6;have B3:=b6.own B2 K;have C3:=b6.own C2 n0;clear G1 G2 B1 B2 C1 C2 b2 b4 b6 d9 f2;go_wp2
 go_loopw [5] (fun i wr=>∃(k:Nat) (l:List (Rd.Cls×Value)) (v:TX),(k:Int)<=C.1/\i=.i k/\l.length=k/\l.map Prod.fst=(Rd.rep (Rd.cls s.data.toList) k C.2).1/\Ex wr w.heap.size v l /\
   wr.heap[w.heap.size+1]?=some (.cells #[v,.s none 0 0] 84 (0,0))/\wr.heap[w.heap.size]?=some (O1 none 0 0 none 0 0) /\
   Ev wr B s (Rd.rep (Rd.cls s.data.toList) k C.2).2/\Gr B w wr)
  (fun i _=>C.1.toNat-(intOf i).toNat)
 case atStart=>exact⟨0,[],_,Bd,rfl,rfl,rfl,⟨Bvl _ _ _ _,Fr⟩,B3,C3,f3,G3⟩
 case round=>
  obtain⟨k,l,v,hk,rfl,a5,L,D,hB,g,N,F⟩:=hrel;have b7:=F.size;by_cases g2:(k:Int)<C.1
  ·generalize c:Rd.rep (Rd.cls s.data.toList) k C.2=p at *;generalize hq:Rd.cls s.data.toList p.2=q;have HP:=Bc c;have HQ:=Bc hq;have a6:=Bc a5;have c0:=Bc L;clear c hq a5 L;go_wp2_with fail;refine(Bom s B p.2 _ hs N).mono ?_;rw[Ba HQ];rintro e w4 ⟨u,rfl,G,a0,f⟩;obtain⟨ua,uc,rfl⟩:=Bg G;have h:=f.own hB K;have a9:=f.own g n0;have I:=F.trans f;have g3:=I.size;obtain⟨va,vc,rfl⟩:=Bg D.1;have O:=D.kp (Kp.of_gr (e:=none) f a8) Ck Ck;have b0:=G.mono b7;have x0:=Bb h 0;have f0:=Bj h 0;have g4:=Pk h;have g5:=Bc O.2;have j:=O.1;simp at x0;clear G D O;go_wp2_with (at_builtin;refine Bvw _ rfl _ _ 81 rfl w.heap.size 139 i0 _ 2 32 underlying81 hi f4 f5 f6 rfl Ck _ _ _ rfl ((j.alloc _).alloc _) ⟨w4.heap.size+1,0,none⟩ 1 1 [.i q.1.above,.s ua q.1.fields.length uc] rfl rfl ?c1 ?c2 ?c3 ?c4 ?c5 ?_)
   case c1=>exact Dv _ _ _ _ Fr
   case c2=>intro u hu;simp at hu;rcases hu with rfl|rfl<;>rfl
   case c3=>have:=Ba a6;unfold maxLen;omega
   case c4=>have:=Ba a6;omega
   case c5=>simp;omega
   intro v' w5 a7 Q _;obtain⟨z,A,rfl⟩:=Bg a7;have c6:=((a0.alloc _).alloc _).grown Q (Xv j a8);have c7:=((I.alloc _).alloc _).grown Q (Xw j);have J:=((Kp.alloc (e:=some 139) (b:=0) _ _).trans (Kp.alloc _ _)).trans (Kp.of_grown Q ((j.alloc _).alloc _));have V:=J _ _ _ (Bv5 _) h Ck;have c8:=J _ _ _ (Bv5 _) a9 Ck;have x1:=Bb V 0;have f1:=Bj V 0;simp at x1;have Y:Kp (some 139) w.heap.size w4 w5:=fun k cs t _ hc G=>J k cs t (Bv5 _) hc G;have c9:Ex (w5.setCell (.a (w.heap.size+1) 0) (.s z (l.length+1) A)) w.heap.size (.s z (l.length+1) A) (l++[(q.1,.s ua q.1.fields.length uc)]):=by
    have Z:=Kp.set (b:=w.heap.size) (i:=0) V (.s z (l.length+1) A);refine⟨?_,?_⟩
    ·rw[Ba6,Up];exact Cx a7 Z Ck
    intro p c;rw[Bwt]at c;rcases c with c|c
    ·exact((Ba g5 p c).kp Y Ck).kp Z Ck
    simp only[Bxa]at c;subst c;exact(b0.kp Y Ck).kp Z Ck
   have e1:(Rd.rep (Rd.cls s.data.toList) (k+1) C.2)=(p.1++[q.1],q.2):=by simp only[Rd.rep,Ba HP,Ba HQ]
   have HE:=Bc e1;have HB:=Bq (i:=0) V (.s z (l.length+1) A);have HC:=D7 c8 (p:=.a (w.heap.size+1) 0) Fr (.s z (l.length+1) A);have HK:=Bc J;have h3:=Bc Y;clear e1 Q j a7 N a0 f I F x0 f0 J Y b0 hB g h a9;go_wp2;go_roundw
   case rel=>exact⟨k+1,_,_,Bd,Lt,by rw[Up,Ba a6];rfl,by rw[Ba HE,Bvx,Ba c0];rfl,c9,HB,HC,by rw[Ba HE];exact c6.set Fm _,c7.set (.inl Fr) _⟩
   case measure=>simp[intOf];omega
  have e:k=C.1.toNat:=Bd;subst e;clear f3 G3 B3 C3;rw[Ba Q4]at L N;have c0:=Bc L;clear L a5;obtain⟨va,vc,rfl⟩:=Bg D.1;go_wp2_with fail;refine(Ln s B 1 6 q4.2 _ hs N).mono ?_;rw[Ba Q5];rintro e w4 ⟨rfl,a0,f⟩;have I:=F.trans f;have B4:=f.own hB K;have C4:=f.own g n0;have O:=D.kp (Kp.of_gr (e:=none) f a8) Ck Ck;clear hB g D F f N hk b7;go_wp2
  go_loopw [8] (fun i wr=>∃(k:Nat) (m:List (Rd.Mth×Eh)) (v:TX),(k:Int)<=q5.1/\i=.i k/\m.length=k/\m.map Prod.fst=(Rd.rep (Rd.mth s.data.toList) k q5.2).1/\Eb wr w.heap.size v m /\
    Ex wr w.heap.size (.s va l.length vc) l /\
    wr.heap[w.heap.size+1]?=some (.cells #[.s va l.length vc,v] 84 (0,0))/\wr.heap[w.heap.size]?=some (O1 none 0 0 none 0 0) /\
    Ev wr B s (Rd.rep (Rd.mth s.data.toList) k q5.2).2/\Gr B w wr)
   (fun i _=>q5.1.toNat-(intOf i).toNat)
  case atStart=>exact⟨0,[],_,Bd,rfl,rfl,rfl,⟨Bvl _ _ _ _,Fr⟩,O,B4,C4,a0,I⟩
  case round=>
   clear O B4 C4 a0 I;obtain⟨k,m,v,hk,rfl,a5,L,b1,D,hB,g,N,F⟩:=hrel;have b7:=F.size;by_cases g2:(k:Int)<q5.1
   ·generalize c:Rd.rep (Rd.mth s.data.toList) k q5.2=p at *;generalize hq:Rd.mth s.data.toList p.2=q;have HP:=Bc c;have HQ:=Bc hq;have a6:=Bc a5;have g6:=Bc L;clear c hq a5 L;obtain⟨vb,vd,rfl⟩:=Bg b1.1;go_wp2_with fail;refine(Bkt s B p.2 _ hs N).mono ?_;rw[Ba HQ];rintro e w4 ⟨a1,m1,d1,a2,m2,d2,a3,m3,d3,a4,m4,d4,rfl,G,a0,f⟩;have h:=f.own hB K;have a9:=f.own g n0;have I:=F.trans f;have g3:=I.size;have d0:=b1.kp (Kp.of_gr (e:=none) f a8) Ck Ck Ck Ck Ck;have O:=D.kp (Kp.of_gr (e:=none) f a8) Ck Ck;have b0:=G.mono b7;have x0:=Bb h 1;have f0:=Bj h 1;have g4:=Pk h;have g7:=Bc d0.2;have j:=d0.1;simp at x0;clear G b1 d0 D;go_wp2_with (at_builtin;refine Bvw _ rfl _ _ 82 rfl w.heap.size 133 j0 _ 10 144 underlying82 hj f7 f8 f9 rfl Ck _ _ _ rfl ((j.alloc _).alloc _) ⟨w4.heap.size+1,0,none⟩ 1 1 (Ly q.1 ⟨.s a1 m1 d1,.s a2 m2 d2,.s a3 m3 d3,.s a4 m4 d4⟩) rfl rfl ?d1 ?d2 ?d3 ?d4 ?d5 ?_)
    case d1=>exact Dv _ _ _ _ Fr
    case d2=>intro u hu;simp[Ly]at hu;rcases hu with rfl|rfl|rfl|rfl|rfl|rfl|rfl|rfl|rfl|rfl<;>rfl
    case d3=>have:=Ba a6;unfold maxLen;omega
    case d4=>have:=Ba a6;omega
    case d5=>simp;omega
    intro v' w5 a7 Q _;obtain⟨z,A,rfl⟩:=Bg a7;have c6:=((a0.alloc _).alloc _).grown Q (Xv j a8);have c7:=((I.alloc _).alloc _).grown Q (Xw j);have J:=((Kp.alloc (e:=some 133) (b:=0) _ _).trans (Kp.alloc _ _)).trans (Kp.of_grown Q ((j.alloc _).alloc _));have V:=J _ _ _ (Bv5 _) h Ck;have c8:=J _ _ _ (Bv5 _) a9 Ck;have x1:=Bb V 1;have f1:=Bj V 1;simp at x1;have Y:Kp (some 133) w.heap.size w4 w5:=fun k cs t _ hc G=>J k cs t (Bv5 _) hc G;have Z:=Kp.set (b:=w.heap.size) (i:=1) V (.s z (m.length+1) A);have g8:Eb (w5.setCell (.a (w.heap.size+1) 1) (.s z (m.length+1) A)) w.heap.size (.s z (m.length+1) A) (m++[(q.1,⟨.s a1 m1 d1,.s a2 m2 d2,.s a3 m3 d3,.s a4 m4 d4⟩)]):=by
     refine⟨?_,?_⟩
     ·rw[Ac,Up];exact Cx a7 Z Ck
     intro p c;rw[Bwt]at c;rcases c with c|c
     ·exact((Ba g7 p c).kp Y Ck Ck Ck Ck).kp Z Ck Ck Ck Ck
     simp only[Bxa]at c;subst c;exact(b0.kp Y Ck Ck Ck Ck).kp Z Ck Ck Ck Ck
    have c9:=(O.kp Y Ck Ck).kp Z Ck Ck;have e1:(Rd.rep (Rd.mth s.data.toList) (k+1) q5.2)=(p.1++[q.1],q.2):=by simp only[Rd.rep,Ba HP,Ba HQ]
    have HE:=Bc e1;have HB:=Bq (i:=1) V (.s z (m.length+1) A);have HC:=D7 c8 (p:=.a (w.heap.size+1) 1) Fr (.s z (m.length+1) A);clear e1 Q j a7 N a0 f I F x0 f0 J Y b0 hB g h a9 Z O;go_wp2;go_roundw
    case rel=>exact⟨k+1,_,_,Bd,Lt,by rw[Up,Ba a6];rfl,by rw[Ba HE,Bvx,Ba g6];rfl,g8,c9,HB,HC,by rw[Ba HE];exact c6.set Fm _,c7.set (.inl Fr) _⟩
    case measure=>simp[intOf];omega
   have e:k=q5.1.toNat:=Bd;subst e;obtain⟨vb,vd,rfl⟩:=Bg b1.1;clear a5;obtain⟨x0,x1⟩:=cl2 hB;obtain⟨y0,y1⟩:=cl2 g;obtain⟨g0,g1⟩:=fr2 g;simp at x0 x1 y0 y1;go_wp2_with fail;refine tb (.agg #[.s va l.length vc,.s vb m.length vd]) (by simp[results,results104,go_sem,y0,y1]) ?_;have k1:=(Kp.set (b:=w.heap.size) (i:=0) g (.s va l.length vc)).trans (Kp.set (i:=1) (Bq (i:=0) g (.s va l.length vc)) (.s vb m.length vd));refine⟨_,_,_,_,_,_,rfl,l,Ba c0,D.kp k1 Ck Ck,m,L,b1.kp k1 Ck Ck Ck Ck Ck,?_,?_⟩
   ·exact(N.set Fm _).set Fm _
   exact(F.set (.inl Fr) _).set (.inl Fr) _
def Rd.read(s:TB):Rd.Fil × Int :=
 if 15000<s.length then (⟨[],[]⟩,1)
 else if (Rd.fil s ⟨0,false⟩).2.bad=true\/(Rd.fil s ⟨0,false⟩).2.pos≠s.length then (⟨[],[]⟩,2)
 else ((Rd.fil s ⟨0,false⟩).1,0)
def Bpw(s:ByteArray)(w:TW)(L:s.size<=maxLen):Calls prog 67 #[.string s] w fun e g => ∃h j l m p t,e=.r (.tuple #[.agg #[.s h j l,.s m p t],.i (Rd.read s.data.toList).2])/\Bo3 g w.heap.size (.s h j l) (Rd.read s.data.toList).1.classes/\Bo1 g w.heap.size (.s m p t) (Rd.read s.data.toList).1.methods/\Bl w g:=by
 have a9:s.data.toList.length=s.size:=Fr;unfold Rd.read;rw[a9];have b0:∀g:TW,Bo3 g w.heap.size (.s none 0 0) []:=fun g=>⟨[],rfl,Bvl _ _ _ _,Fr⟩;have b1:∀g:TW,Bo1 g w.heap.size (.s none 0 0) []:=fun g=>⟨[],rfl,Bvl _ _ _ _,Fr⟩;have N:=Bc b0;have O:=Bc b1;by_cases h1:15000<s.size;·rw[Sp h1];have b2:(15000:Int)<(s.size:Int):=Bd;go_in;go_wp2;refine tb (.tuple #[.agg #[.s none 0 0,.s none 0 0],.i 1]) (by simp[results,Bzl,go_sem]) ?_;exact⟨none,0,0,none,0,0,rfl,Ba N _,Ba O _,QN _⟩
 rw[Pf h1];generalize hq:Rd.fil s.data.toList ⟨0,false⟩=q;have Q:=Bc hq;have b2:¬(15000:Int)<(s.size:Int):=Bd;have V:Ev ((w.alloc (O1 none 0 0 none 0 0)).alloc (O0 s 0 false)) (w.heap.size+1) s ⟨0,false⟩:=Bv w _ _;cases a7:q.2.bad with
 | true =>
  rw[Sp (.inl rfl)];have K:=Bc a7;go_in;go_wp2_with fail;refine(Bbn s (w.heap.size+1) ⟨0,false⟩ _ L V).mono ?_;rw[Ba Q];rintro e B ⟨h,j,l,m,p,t,Y,Z,rfl,C,a0,D,a3,v,f⟩;have c:=f.own (Cb w _ _) Bd;obtain⟨x0,x1,F,f0,f1,f2⟩:=v.cells;rw[Ba K]at F;obtain⟨z,A⟩:=cl2 c;obtain⟨g0,g1⟩:=fr2 c;simp at z A;have G:=f.size;simp at G;have I:=Pk c;have a8:=v.lt;have J:Bl w B:=((((Gr.refl (w.heap.size+1) w).alloc _).alloc _).trans f).below Bd;have a4:=Bc C;have a5:=Bc D;go_wp2_with fail;refine tb (.tuple #[.agg #[.s none 0 0,.s none 0 0],.i 2]) (by simp[results,Bzl,go_sem,z,A,I]) ?_;exact⟨none,0,0,none,0,0,rfl,Ba N _,Ba O _,((J.setCell Fr _).setCell Fr _).alloc Fm _⟩
 | false =>
  have K:=Bc a7;by_cases a6:q.2.pos=s.size
  ·rw[Pf (by simp[a6])];have b3:((q.2.pos:Int) != (s.size:Int))=false:=by simp[a6]
   go_in;go_wp2_with fail;refine(Bbn s (w.heap.size+1) ⟨0,false⟩ _ L V).mono ?_;rw[Ba Q];rintro e B ⟨h,j,l,m,p,t,Y,Z,rfl,C,a0,D,a3,v,f⟩;have c:=f.own (Cb w _ _) Bd;obtain⟨x0,x1,F,f0,f1,f2⟩:=v.cells;rw[Ba K]at F;obtain⟨z,A⟩:=cl2 c;obtain⟨g0,g1⟩:=fr2 c;simp at z A;have G:=f.size;simp at G;have I:=Pk c;have a8:=v.lt;have J:Bl w B:=((((Gr.refl (w.heap.size+1) w).alloc _).alloc _).trans f).below Bd;have a4:=Bc C;have a5:=Bc D;go_wp2_with fail;refine tb (.tuple #[.agg #[.s h j l,.s m p t],.i 0]) (by simp[results,Bzl,go_sem,z,A,I]) ?_;have k1:=((Kp.set (b:=w.heap.size) (i:=0) c (.s h j l)).trans (Kp.set (i:=1) (Bq (i:=0) c (.s h j l)) (.s m p t))).trans (Kp.alloc _ (O1 h j l m p t));refine⟨_,_,_,_,_,_,rfl,⟨Y,Ba a4,?_⟩,⟨Z,Ba a5,?_⟩,((J.setCell Fr _).setCell Fr _).alloc Fm _⟩
   ·exact(a0.mono Fm).kp k1 Ck Ck
   exact(a3.mono Fm).kp k1 Ck Ck Ck Ck Ck
  rw[Sp (.inr a6)];have b3:((q.2.pos:Int) != (s.size:Int))=true:=Fm;go_in;go_wp2_with fail;refine(Bbn s (w.heap.size+1) ⟨0,false⟩ _ L V).mono ?_;rw[Ba Q];rintro e B ⟨h,j,l,m,p,t,Y,Z,rfl,C,a0,D,a3,v,f⟩;have c:=f.own (Cb w _ _) Bd;obtain⟨x0,x1,F,f0,f1,f2⟩:=v.cells;rw[Ba K]at F;obtain⟨z,A⟩:=cl2 c;obtain⟨g0,g1⟩:=fr2 c;simp at z A;have G:=f.size;simp at G;have I:=Pk c;have a8:=v.lt;have J:Bl w B:=((((Gr.refl (w.heap.size+1) w).alloc _).alloc _).trans f).below Bd;have a4:=Bc C;have a5:=Bc D;go_wp2_with fail;refine tb (.tuple #[.agg #[.s none 0 0,.s none 0 0],.i 2]) (by simp[results,Bzl,go_sem,z,A,I]) ?_;exact⟨none,0,0,none,0,0,rfl,Ba N _,Ba O _,((J.setCell Fr _).setCell Fr _).alloc Fm _⟩
namespace Tr
def ov (l:TI)(c:Int):Int:=if c<0 then -1 else if (l.length:Int)<=c then -1 else l.getD c.toNat 0
def upTo (l:TI)(high:Int):Nat->Int->Bool
 | 0,_=>false
 | n+1,pos=>if pos = -1 then false else if pos=high then true else upTo l high n (ov l pos)
def below(l:TI)(low high:Int):Bool:=upTo l high l.length (ov l low)
def hasB (l:TI)(c:Int):Bool:=decide (0<=c)&&decide (c<(l.length:Int))
def plainB(l:TI)(k n:Int):Bool:=if k=1 then n==0 else if k=3 then hasB l n else false
def settledB(l:TI)(k n:Int):Bool:=if k=0\/k=2 then n==0 else plainB l k n
def fitsB(l:TI)(k n k' n':Int):Bool :=
 if k=k'/\n=n' then true else if k'=0 then true else if k' ≠ 3 then false else if k=2 then true else if k=3 then below l n n' else false
def meetTo(l:TI)(b:Int):Nat->Int->Int
 | 0,_=>0
 | n+1,a=>if a=b then a else if below l b a=true then a else meetTo l b n (ov l a)
def meet (l:TI)(a b:Int):Int:=meetTo l b l.length a
def joinT(l:TI)(a b:Int × Int):Int × Int :=
 if fitsB l a.1 a.2 b.1 b.2=true then b
 else if fitsB l b.1 b.2 a.1 a.2=true then a
 else if a.1≠3 then (0,0)
 else if b.1≠3 then (0,0)
 else (3,meet l a.2 b.2)
def allPlainB(l:TI)(fs:TP):Bool:=fs.all fun f=>plainB l f.1 f.2
end Tr
variable {ya:Option Addr}{yn yc:Nat}
def Dl (w:TW)(g:Nat)(l:TI):Prop:=g<w.heap.size/\∀i,i<l.length->w.cell? ⟨g,i,none⟩=some (.int .i64 (l.getD i 0))
def Dl.below{b:TW}{z:TI}(h:Dl w u z)(c:Bl w b):Dl b u z :=
 ⟨Bvm h.1 c.size,fun i e=>by rw[c.cell (p:=.a u i) h.1];exact h.2 i e⟩
def Dl.alloc{z:TI}(h:Dl w u z)(o:Obj):Dl (w.alloc o) u z:=h.below (QN _)
def Bbh(l:TI)(g b:Nat)(c:Int)(w:TW)(f:Dl w g l):Calls prog 225 #[.agg #[.s (.p g) l.length b,.s ya yn yc],.i c] w fun e m=>e=.r (.i (Tr.ov l c))/\Bl w m:=by
 unfold Tr.ov;by_cases h:c<0;·rw[Sp h];go_in;go_wp2;go_ret;exact⟨rfl,QN _⟩
 rw[Pf h];by_cases j:(l.length:Int)<=c;·rw[Sp j];go_in;go_wp2;go_ret;exact⟨rfl,QN _⟩
 rw[Pf j];obtain⟨i,rfl⟩:=Bvk (show 0<=c by omega);have q:i<l.length:=Bd;have t:=(f.alloc (O2 (.p g) l.length b ya yn yc)).2 i q;have v:=f.1;go_in;go_wp2;go_ret;exact⟨rfl,QN _⟩
def Bdf(l:TI)(a:TA)(b:Nat)(c:Int)(w:TW):Calls prog 212 #[.agg #[.s a l.length b,.s ya yn yc],.i c] w fun e f=>e=.r (.bool (Tr.hasB l c))/\Bl w f:=by
 unfold Tr.hasB;by_cases g:0<=c;·go_in;go_wp2;go_ret;exact⟨by simp[g],QN _⟩
 go_in;go_wp2;go_ret;exact⟨Fm,QN _⟩
def Bmd{z:TI}{c B:Int}{n:Nat}(b:B ≠ -1)(e:B≠c):Tr.upTo z c (n+1) B=Tr.upTo z c n (Tr.ov z B):=by
 simp[Tr.upTo,b,e]
def Bpi{z:TI}{c B:Int}{n:Nat}(b:B ≠ -1)(e:B=c):Tr.upTo z c (n+1) B=true:=by
 subst e;simp[Tr.upTo,b]
def Bpg{z:TI}{c B:Int}{n:Nat}(b:B = -1):Tr.upTo z c n B=false:=by
 cases n<;>simp[Tr.upTo,b]
def Aq(l:TI)(g b:Nat)(z c:Int)(w:TW)(hl:l.length<=1000)(A:Dl w g l):Calls prog 171 #[.agg #[.s (.p g) l.length b,.s ya yn yc],.i z,.i c] w fun e I=>e=.r (.bool (Tr.below l z c))/\Bl w I:=by
 unfold Tr.below;generalize J:Tr.upTo l c l.length (Tr.ov l z)=r;have j:=Bc J;have hg:=A.1;have K:=A.alloc (O2 (.p g) l.length b ya yn yc);have L:Bl w (w.alloc (O2 (.p g) l.length b ya yn yc)):=QN _;have N:=Bf w (O2 (.p g) l.length b ya yn yc);go_in;go_wp2_with fail;refine Qm (Bbh l g b z _ K) ?_;intro C D;have O:Bl w C:=L.trans (D.mono Fr);have Q:C.heap[w.heap.size]?=some (O2 (.p g) l.length b ya yn yc):=(D.block _ Fr).trans N;go_wp2
 go_loopw [7,8] (fun p i wr=>∃(k:Nat) (q:Int),k<=l.length/\i=.i k/\p=.i q/\Hid (Tr.upTo l c (l.length-k) q=r)/\Bl w wr /\
   wr.heap[w.heap.size]?=some (O2 (.p g) l.length b ya yn yc))
  (fun _ i _=>l.length-(intOf i).toNat)
 case atStart=>exact⟨0,_,Bd,rfl,rfl,j,O,Q⟩
 case round=>
  obtain⟨k,q,hk,rfl,rfl,j,t,B⟩:=hrel;obtain⟨V,Y⟩:=cl2 B;simp at V Y;by_cases a4:k<l.length
  ·by_cases f:q = -1
   ·have Z:(q != -1)=false:=by simp[f]
    have v:r=false:=by rw[<- Ba j];exact Bpg f
    have h:=Bc v;have F:=Bc f;go_wp2;go_ret;exact⟨by rw[Ba h];rfl,t⟩
   have Z:(q != -1)=true:=by simp[f]
   by_cases m:q=c
   ·have a0:(q==c)=true:=by simp[m]
    have v:r=true:=by rw[<- Ba j,show l.length-k=(l.length-k-1)+1 by omega];exact Bpi f m
    have h:=Bc v;have F:=Bc f;have H2:=Bc m;go_wp2;go_ret;exact⟨by rw[Ba h];rfl,t⟩
   have a0:(q==c)=false:=by simp[m]
   have h:Hid (Tr.upTo l c (l.length-(k+1)) (Tr.ov l q)=r):=by
    unfold Hid;rw[<- Ba j,show l.length-k=(l.length-(k+1))+1 by omega,Bmd f m]
   have F:=Bc f;have H2:=Bc m;have a1:=A.below t;go_wp2_with fail;refine Qm (Bbh l g b q _ a1) ?_;intro w2 G;have a2:Bl w w2:=QB t G;have a3:=(G.block _ (Pk B)).trans B;go_wp2;go_roundw
   case rel=>exact⟨k+1,_,Bd,Lt,rfl,h,a2,a3⟩
   case measure=>simp[intOf];omega
  have v:r=false:=by rw[<- Ba j,show l.length-k=0 by omega];rfl
  have h:=Bc v;go_wp2;go_ret;exact⟨by rw[Ba h];rfl,t⟩
variable {ya:Option Addr}{yn yc:Nat}
def Bx(w:TW)(o b:Obj):Bl w ((w.alloc o).alloc b):=(QN _).alloc Fr _
def Is(w:TW)(o b c:Obj):Bl w (((w.alloc o).alloc b).alloc c):=((QN _).alloc Fr _).alloc Fm _
def Ue(l:TI)(a:TA)(f:Nat)(k n:Int)(w:TW):Calls prog 210 #[.agg #[.s a l.length f,.s ya yn yc],.agg #[.i k,.i n]] w fun e g=>e=.r (.bool (Tr.plainB l k n))/\Bl w g:=by
 unfold Tr.plainB;by_cases b:k=1
 ·rw[Sp b];have h:(k==1)=true:=by simp[b]
  go_in;go_wp2;go_ret;exact⟨rfl,Bx _ _ _⟩
 rw[Pf b];have h:(k==1)=false:=by simp[b]
 by_cases c:k=3
 ·rw[Sp c];have j:(k==3)=true:=by simp[c]
  go_in;go_wp2_with fail;refine Qm (Bdf l a f n _) ?_;intro p m;go_wp2;go_ret;exact⟨rfl,(Bx _ _ _).trans (m.mono Fm)⟩
 rw[Pf c];have j:(k==3)=false:=by simp[c]
 go_in;go_wp2;go_ret;exact⟨rfl,Bx _ _ _⟩
def Bfn(l:TI)(a:TA)(f:Nat)(k n:Int)(w:TW):Calls prog 224 #[.agg #[.s a l.length f,.s ya yn yc],.agg #[.i k,.i n]] w fun e h=>e=.r (.bool (Tr.settledB l k n))/\Bl w h:=by
 unfold Tr.settledB;by_cases b:k=0
 ·rw[Sp (.inl b)];have g:(k==0)=true:=by simp[b]
  go_in;go_wp2;go_ret;exact⟨rfl,Bx _ _ _⟩
 by_cases c:k=2
 ·rw[Sp (.inr c)];have g:(k==0)=false:=by simp[b]
  have j:(k==2)=true:=by simp[c]
  go_in;go_wp2;go_ret;exact⟨rfl,Bx _ _ _⟩
 rw[Pf Bd];have g:(k==0)=false:=by simp[b]
 have j:(k==2)=false:=by simp[c]
 go_in;go_wp2_with fail;refine Qm (Ue l a f k n _) ?_;intro p m;go_wp2;go_ret;exact⟨rfl,(Bx _ _ _).trans (m.mono Fm)⟩
def Km(l:TI)(g z:Nat)(k n b h:Int)(w:TW)(A:l.length<=1000)(B:Dl w g l):Calls prog 118 #[.agg #[.s (.p g) l.length z,.s ya yn yc],.agg #[.i k,.i n],.agg #[.i b,.i h]] w fun e C=>e=.r (.bool (Tr.fitsB l k n b h))/\Bl w C:=by
 unfold Tr.fitsB;by_cases c:k=b/\n=h;·rw[Sp c];obtain⟨rfl,rfl⟩:=c;go_in;go_wp2;go_ret;exact⟨rfl,Is _ _ _ _⟩
 rw[Pf c];by_cases j:b=0
 ·rw[Sp j];subst j;by_cases v:k=0;·subst v;have f:¬n=h:=fun f=>c ⟨rfl,f⟩;go_in;go_wp2;go_ret;exact⟨rfl,Is _ _ _ _⟩
  clear c;go_in;go_wp2;go_ret;exact⟨rfl,Is _ _ _ _⟩
 rw[Pf j];by_cases m:b=3
 ·rw[Pf Bd];subst m;by_cases q:k=2;·rw[Sp q];subst q;go_in;go_wp2;go_ret;exact⟨rfl,Is _ _ _ _⟩
  rw[Pf q];by_cases t:k=3;·rw[Sp t];subst t;have f:¬n=h:=fun f=>c ⟨rfl,f⟩;go_in;go_wp2_with fail;refine Qm (Aq l g z n h _ A (B.below (Is _ _ _ _))) ?_;intro F D;go_wp2;go_ret;exact⟨rfl,(Is _ _ _ _).trans (D.mono Fm)⟩
  rw[Pf t];have G:(k==2)=false:=by simp[q]
  have I:(k==3)=false:=by simp[t]
  go_in;go_wp2;go_ret;exact⟨rfl,Is _ _ _ _⟩
 rw[Sp m];have J:(b==0)=false:=by simp[j]
 have K:(b != 3)=true:=by simp[m]
 by_cases v:k=b;·subst v;have f:¬n=h:=fun f=>c ⟨rfl,f⟩;go_in;go_wp2;go_ret;exact⟨rfl,Is _ _ _ _⟩
 clear c j m;go_in;go_wp2;go_ret;exact⟨rfl,Is _ _ _ _⟩
variable {ya:Option Addr}{yn yc:Nat}
def Tr.within(l:TI)(a b:Int):Bool:=(a==b) || Tr.below l a b
def Bku{z:TI}{a B:Int}{n:Nat}(h:Tr.within z B a=true):Tr.meetTo z B (n+1) a=a:=by
 unfold Tr.within at h;by_cases c:a=B;·simp[Tr.meetTo,c]
 have e:Tr.below z B a=true:=by
  have f:(B==a)=false:=Fm;rw[f]at h;simpa using h
 simp[Tr.meetTo,e]
def Bnh{z:TI}{a B:Int}{n:Nat}(h:Tr.within z B a=false):Tr.meetTo z B (n+1) a=Tr.meetTo z B n (Tr.ov z a):=by
 unfold Tr.within at h;simp only[Bxo,Byp,ne_eq]at h;have c:¬a=B:=fun e=>h.1 e.symm;simp[Tr.meetTo,c,h.2]
def N1(l:TI)(g c:Nat)(a b:Int)(w:TW)(m:l.length<=1000)(q:Dl w g l):Calls prog 258 #[.agg #[.s (.p g) l.length c,.s ya yn yc],.i a,.i b] w fun e t=>e=.r (.bool (Tr.within l a b))/\Bl w t:=by
 have f:Bl w (w.alloc (O2 (.p g) l.length c ya yn yc)):=QN _;unfold Tr.within;by_cases h:a=b;·subst h;rw[beq_self_eq_true,Bool.true_or];have j:(a==a)=true:=Fr;go_in;go_wp2;go_ret;exact⟨rfl,f⟩
 have j:(a==b)=false:=by simp[h]
 rw[j,Bool.false_or];generalize v:Tr.below l a b=r;have z:=Bc v;go_in;go_wp2_with fail;refine(Aq l g c a b _ m (q.below f)).mono ?_;rw[Ba z];rintro e B ⟨rfl,A⟩;go_wp2;go_ret;exact⟨rfl,f.trans (A.mono Fr)⟩
def Bqf(l:TI)(g c:Nat)(a b:Int)(w:TW)(D:l.length<=1000)(v:Dl w g l):Calls prog 231 #[.agg #[.s (.p g) l.length c,.s ya yn yc],.i a,.i b] w fun e J=>e=.r (.i (Tr.meet l a b))/\Bl w J:=by
 unfold Tr.meet;generalize K:Tr.meetTo l b l.length a=r;have f:=Bc K;have hg:=v.1;have L:Bl w (w.alloc (O2 (.p g) l.length c ya yn yc)):=QN _;have N:=Bf w (O2 (.p g) l.length c ya yn yc);go_in;go_wp2
 go_loopw [1,7] (fun p i wr=>∃(k:Nat) (q:Int),k<=l.length/\i=.i k/\p=.i q/\Hid (Tr.meetTo l b (l.length-k) q=r)/\Bl w wr /\
   wr.heap[w.heap.size]?=some (O2 (.p g) l.length c ya yn yc))
  (fun _ i _=>l.length-(intOf i).toNat)
 case atStart=>exact⟨0,_,Bd,rfl,rfl,f,L,N⟩
 case round=>
  obtain⟨k,q,hk,rfl,rfl,f,h,z⟩:=hrel;obtain⟨O,Q⟩:=cl2 z;simp at O Q;have F:=v.below h;have G:=h.size;by_cases a3:k<l.length
  ·cases m:Tr.within l b q with
   | true =>
    have A:r=q:=by rw[<- Ba f,show l.length-k=(l.length-k-1)+1 by omega];exact Bku m
    have j:=Bc A;have B:=Bc m;go_wp2_with fail;refine(N1 l g c b q _ D F).mono ?_;rw[Ba B];rintro e V ⟨rfl,t⟩;go_wp2;go_ret;exact⟨by rw[Ba j];rfl,h.trans (t.mono G)⟩
   | false =>
    have j:Hid (Tr.meetTo l b (l.length-(k+1)) (Tr.ov l q)=r):=by
     unfold Hid;rw[<- Ba f,show l.length-k=(l.length-(k+1))+1 by omega,Bnh m]
    have B:=Bc m;go_wp2_with fail;refine(N1 l g c b q _ D F).mono ?_;rw[Ba B];rintro e V ⟨rfl,t⟩;have I:=h.trans (t.mono G);have C:=(t.block _ (Pk z)).trans z;have Y:=v.below I;obtain⟨Z,c3⟩:=cl2 C;simp at Z c3;go_wp2_with fail;refine Qb (Bbh l g c q _ Y) I ?_;intro w3 a0 a1;have a2:=(a0.block _ (Pk C)).trans C;go_wp2;go_roundw
    case rel=>exact⟨k+1,_,Bd,Lt,rfl,j,a1,a2⟩
    case measure=>simp[intOf];omega
  have A:r=0:=by rw[<- Ba f,show l.length-k=0 by omega];rfl
  have j:=Bc A;go_wp2;go_ret;exact⟨by rw[Ba j];rfl,h⟩
def Mq(w:TW)(o b c e:Obj):Bl w ((((w.alloc o).alloc b).alloc c).alloc e):=(Is w o b c).alloc Fm _
def J2(w:TW)(b c e f:Obj):((((w.alloc b).alloc c).alloc e).alloc f).heap[w.heap.size]?=some b/\((((w.alloc b).alloc c).alloc e).alloc f).heap[w.heap.size+1]?=some c/\((((w.alloc b).alloc c).alloc e).alloc f).heap[w.heap.size+1+1]?=some e/\((((w.alloc b).alloc c).alloc e).alloc f).heap[w.heap.size+1+1+1]?=some f:=by
 refine⟨?_,?_,?_,?_⟩
 ·rw[Bvu _ _ _ (by first|(simp;done)|(simp;omega)),Bvu _ _ _ (by first|(simp;done)|(simp;omega)),Bvu _ _ _ (by first|(simp;done)|(simp;omega))];exact Bf w b
 ·rw[Bvu _ _ _ (by first|(simp;done)|(simp;omega)),Bvu _ _ _ (by first|(simp;done)|(simp;omega))];simpa using Bf (w.alloc b) c
 ·rw[Bvu _ _ _ (by first|(simp;done)|(simp;omega))];simpa using Bf ((w.alloc b).alloc c) e
 simpa using Bf (((w.alloc b).alloc c).alloc e) f
def stay{b:TW}{o:Obj}(c:Bl w b)(h:w.heap[k]?=some o):b.heap[k]?=some o:=(c.block k (Pk h)).trans h
def Bmg(l:TI)(g G:Nat)(k n O Q:Int)(w:TW)(J:l.length<=1000)(K:Dl w g l):Calls prog 179 #[.agg #[.s (.p g) l.length G,.s ya yn yc],.agg #[.i k,.i n],.agg #[.i O,.i Q]] w fun e w' => e=.r (.agg #[.i (Tr.joinT l (k,n) (O,Q)).1,.i (Tr.joinT l (k,n) (O,Q)).2])/\Bl w w':=by
 unfold Tr.joinT;dsimp only;cases h1:Tr.fitsB l k n O Q with
 | true =>
  rw[Sp rfl];have H1:=Bc h1;go_in;go_wp2_with fail;refine(Km l g G _ _ _ _ _ J (K.below (Mq _ _ _ _ _))).mono ?_;rw[Ba H1];rintro e w1 ⟨rfl,b⟩;have B:=stay b (J2 w _ _ _ _).2.1;have C:=stay b (J2 w _ _ _ _).2.2.1;have j:=stay b (J2 w _ _ _ _).2.2.2;have D:=(Mq w _ _ _ _).trans (b.mono Fm);obtain⟨m,q⟩:=cl2 B;obtain⟨t,v⟩:=cl2 C;obtain⟨c,f⟩:=cl2 j;obtain⟨L,N⟩:=fr2 j;simp at m q t v c f;go_wp2_with fail;refine tb (.agg #[.i O,.i Q]) (by simp[results,Bys,go_sem,c,f]) ?_;exact⟨rfl,(D.setCell Fm _).setCell Fm _⟩
 | false =>
  rw[Pf Fr];have H1:=Bc h1;cases h2:Tr.fitsB l O Q k n with
  | true =>
   rw[Sp rfl];have H2:=Bc h2;go_in;go_wp2_with fail;refine(Km l g G _ _ _ _ _ J (K.below (Mq _ _ _ _ _))).mono ?_;rw[Ba H1];rintro e w1 ⟨rfl,b⟩;have B:=stay b (J2 w _ _ _ _).2.1;have C:=stay b (J2 w _ _ _ _).2.2.1;have j:=stay b (J2 w _ _ _ _).2.2.2;have D:=(Mq w _ _ _ _).trans (b.mono Fm);obtain⟨m,q⟩:=cl2 B;obtain⟨t,v⟩:=cl2 C;obtain⟨c,f⟩:=cl2 j;obtain⟨L,N⟩:=fr2 j;simp at m q t v c f;have I:=stay b (J2 w _ _ _ _).1;obtain⟨z,A⟩:=cl2 I;simp at z A;go_wp2_with fail;refine(Km l g G _ _ _ _ _ J (K.below D)).mono ?_;rw[Ba H2];rintro e w2 ⟨rfl,h⟩;have V:=QB D h;have Y:=stay h I;have Z:=stay h B;have D2:=stay h C;have F:=stay h j;obtain⟨m,q⟩:=cl2 Z;obtain⟨t,v⟩:=cl2 D2;obtain⟨c,f⟩:=cl2 F;obtain⟨L,N⟩:=fr2 F;obtain⟨z,A⟩:=cl2 Y;simp at m q t v c f z A;go_wp2_with fail;refine tb (.agg #[.i k,.i n]) (by simp[results,Bys,go_sem,c,f]) ?_;exact⟨rfl,(V.setCell Fm _).setCell Fm _⟩
  | false =>
   rw[Pf Fr];have H2:=Bc h2;by_cases h3:k=3
   ·rw[Pf Bd];subst h3;by_cases h4:O=3;·rw[Pf Bd];subst h4;go_in;go_wp2_with fail;refine(Km l g G _ _ _ _ _ J (K.below (Mq _ _ _ _ _))).mono ?_;rw[Ba H1];rintro e w1 ⟨rfl,b⟩;have B:=stay b (J2 w _ _ _ _).2.1;have C:=stay b (J2 w _ _ _ _).2.2.1;have j:=stay b (J2 w _ _ _ _).2.2.2;have D:=(Mq w _ _ _ _).trans (b.mono Fm);obtain⟨m,q⟩:=cl2 B;obtain⟨t,v⟩:=cl2 C;obtain⟨c,f⟩:=cl2 j;obtain⟨L,N⟩:=fr2 j;simp at m q t v c f;have I:=stay b (J2 w _ _ _ _).1;obtain⟨z,A⟩:=cl2 I;simp at z A;go_wp2_with fail;refine(Km l g G _ _ _ _ _ J (K.below D)).mono ?_;rw[Ba H2];rintro e w2 ⟨rfl,h⟩;have V:=QB D h;have Y:=stay h I;have Z:=stay h B;have D2:=stay h C;have F:=stay h j;obtain⟨m,q⟩:=cl2 Z;obtain⟨t,v⟩:=cl2 D2;obtain⟨c,f⟩:=cl2 F;obtain⟨L,N⟩:=fr2 F;obtain⟨z,A⟩:=cl2 Y;simp at m q t v c f z A;go_wp2_with fail;refine Qb (Bqf l g G n Q _ J (K.below V)) V ?_;intro w3 a2 a3;have E3:=stay a2 F;obtain⟨c,f⟩:=cl2 E3;obtain⟨L,N⟩:=fr2 E3;simp at c f;go_wp2_with fail;refine tb (.agg #[.i 3,.i (Tr.meet l n Q)]) (by simp[results,Bys,go_sem,c,f]) ?_;exact⟨rfl,(a3.setCell Fm _).setCell Fm _⟩
    rw[Sp h4];have a4:(O != 3)=true:=by simp[h4]
    go_in;go_wp2_with fail;refine(Km l g G _ _ _ _ _ J (K.below (Mq _ _ _ _ _))).mono ?_;rw[Ba H1];rintro e w1 ⟨rfl,b⟩;have B:=stay b (J2 w _ _ _ _).2.1;have C:=stay b (J2 w _ _ _ _).2.2.1;have j:=stay b (J2 w _ _ _ _).2.2.2;have D:=(Mq w _ _ _ _).trans (b.mono Fm);obtain⟨m,q⟩:=cl2 B;obtain⟨t,v⟩:=cl2 C;obtain⟨c,f⟩:=cl2 j;obtain⟨L,N⟩:=fr2 j;simp at m q t v c f;have I:=stay b (J2 w _ _ _ _).1;obtain⟨z,A⟩:=cl2 I;simp at z A;go_wp2_with fail;refine(Km l g G _ _ _ _ _ J (K.below D)).mono ?_;rw[Ba H2];rintro e w2 ⟨rfl,h⟩;have V:=QB D h;have Y:=stay h I;have Z:=stay h B;have D2:=stay h C;have F:=stay h j;obtain⟨m,q⟩:=cl2 Z;obtain⟨t,v⟩:=cl2 D2;obtain⟨c,f⟩:=cl2 F;obtain⟨L,N⟩:=fr2 F;obtain⟨z,A⟩:=cl2 Y;simp at m q t v c f z A;go_wp2_with fail;refine tb (.agg #[.i 0,.i 0]) (by simp[results,Bys,go_sem,c,f]) ?_;exact⟨rfl,(V.setCell Fm _).setCell Fm _⟩
   rw[Sp h3];have a5:(k != 3)=true:=by simp[h3]
   go_in;go_wp2_with fail;refine(Km l g G _ _ _ _ _ J (K.below (Mq _ _ _ _ _))).mono ?_;rw[Ba H1];rintro e w1 ⟨rfl,b⟩;have B:=stay b (J2 w _ _ _ _).2.1;have C:=stay b (J2 w _ _ _ _).2.2.1;have j:=stay b (J2 w _ _ _ _).2.2.2;have D:=(Mq w _ _ _ _).trans (b.mono Fm);obtain⟨m,q⟩:=cl2 B;obtain⟨t,v⟩:=cl2 C;obtain⟨c,f⟩:=cl2 j;obtain⟨L,N⟩:=fr2 j;simp at m q t v c f;have I:=stay b (J2 w _ _ _ _).1;obtain⟨z,A⟩:=cl2 I;simp at z A;go_wp2_with fail;refine(Km l g G _ _ _ _ _ J (K.below D)).mono ?_;rw[Ba H2];rintro e w2 ⟨rfl,h⟩;have V:=QB D h;have Y:=stay h I;have Z:=stay h B;have D2:=stay h C;have F:=stay h j;obtain⟨m,q⟩:=cl2 Z;obtain⟨t,v⟩:=cl2 D2;obtain⟨c,f⟩:=cl2 F;obtain⟨L,N⟩:=fr2 F;obtain⟨z,A⟩:=cl2 Y;simp at m q t v c f z A;go_wp2_with fail;refine tb (.agg #[.i 0,.i 0]) (by simp[results,Bys,go_sem,c,f]) ?_;exact⟨rfl,(V.setCell Fm _).setCell Fm _⟩
def Tr.given:List Int:=[-1,0,1,1,1,1,1]
def Tr.tree(cs:List Rd.Cls):List Int:=Tr.given++cs.map Rd.Cls.above
def Ix(b:List Rd.Cls):(Tr.tree b).length=7+b.length:=by simp[Tr.tree,Tr.given];omega
def Tr.fvals(l:List (Rd.Cls × Value)):List Value:=List.replicate 7 (.slice none 0 0)++l.map Prod.snd
def Tryz.infoTys:(prog.info? 105).map (fun i=>(i.zero,i.size,i.bytes))=some (some (.s none 0 0),1,24):=Le
def Bmn(w:TW)(b g:Nat)(t:TypeId)(c:w.heap.size=g)(e:b<=g)(u:TX):(w.alloc (.cells #[u,u,u,u,u,u,u] t)).ownsRow b t 1 (.s (.p g) 7 7) 7 (List.replicate 7 u) :=
 ⟨rfl,.inr ⟨g,7,#[u,u,u,u,u,u,u],rfl,e,by rw[<- c];exact Bf w _,Bd,Mc,rfl,rfl⟩⟩
def Kp.set2{b i j:Nat}{K:Nat}(h:w.heap[K]?=some (.cells G g (0,0)))(u m:TX):Kp (some g) b w ((w.setCell (.a K i) u).setCell (.a K j) m):=by
 intro k p t c f l;have q:=Kp.set (b:=b) (i:=i) h u k p t c f l;rw[Bvg _ _ _ _ ?_];exact q;intro c;simp only at c;subst c;rw[f]at h;simp at h;exact l (by rw[h.2])
def lenOf:TX->Nat | .slice _ n _=>n | _=>0
def Br2(w:TW)(b g:Nat)(u v:TX)(t:TypeId)(c:w.heap.size=g)(e:b<=g):(w.alloc (.cells #[u,v] t)).ownsRow b t 1 (.s (.p g) 2 2) 2 [u,v] :=
 ⟨rfl,.inr ⟨g,2,#[u,v],rfl,e,by rw[<- c];exact Bf w _,Bd,Mc,rfl,rfl⟩⟩
def Cf{p n:Nat}{a:TA}{K c:Nat}{e:TV}(h:w.ownsRow u g p (.s a K c) n e)(v:0<n):∃f,a=some ⟨f,0,none⟩/\f<w.heap.size/\u<=f/\∀j,j<e.length->w.cell? (.a f j)=e[j]?:=by
 obtain⟨z,⟨_,A⟩|⟨f,B,C,i,q,l,D,F,G,t⟩⟩:=h
 ·omega
 simp only[Value.slice.injEq]at i;refine⟨f,i.1,Pk l,q,fun j I=>?_⟩;rw[Bb l,<- t,Bww,Sp Bd];simp
def Ns(l:List (Rd.Cls×Value))(k:Nat)(h:k<l.length):(Kr l)[k*2]?=some (.i l[k].1.above)/\(Kr l)[k*2+1]?=some l[k].2/\k*2+1<(Kr l).length:=by
 induction l generalizing k with
 | nil=>simp at h
 | cons x r ih =>
  cases k with
  | zero=>simp[Kr]
  | succ j =>
   have b:j<r.length:=by simpa using h
   obtain⟨p,q,z⟩:=ih j b;have e:Kr (x::r)=.i x.1.above::x.2::Kr r:=by simp[Kr]
   rw[e,show (j+1)*2=j*2+1+1 by omega];refine⟨by simpa using p,by simpa using q,Fm⟩
def Sn(G V:TA)(n1 c1 Y c2 b:Nat)(l:List (Rd.Cls×Value))(w:TW)(hl:l.length<=6)(hc:Ex w b (.s G n1 c1) l):Calls prog 69 #[.agg #[.s G n1 c1,.s V Y c2]] w fun e w' => ∃g c0 ya yn yc,e=.r (.agg #[.s (.p g) (Tr.tree (l.map Prod.fst)).length c0,.s ya yn yc])/\Dl w' g (Tr.tree (l.map Prod.fst))/\w'.ownsRow w.heap.size 105 1 (.s ya yn yc) (7+l.length) (Tr.fvals l)/\w.heap.size<=g/\Bl w w':=by
 obtain⟨xa,xc,a7⟩:=Bg hc.1;simp only[Value.slice.injEq]at a7;obtain⟨rfl,c6,rfl⟩:=a7;subst c6;obtain⟨i0,I,a8,a9,b0⟩:=Bv4 Tryz.infoInt;obtain⟨j0,t,c7,c8,c9⟩:=Bv4 Tryz.infoTys;have g2:∀w:TW,(Instr.makeSlice 126 (.i 7) (.i 7)).run prog w=.ok (.s (.p w.heap.size) 7 7) (w.alloc (O3 none 0 0 none 0 0 none 0 0 none 0 0 none 0 0 none 0 0 none 0 0)):=fun _=>Le;go_in;go_wp2
 go_loopw [3] (fun v wr=>∃k:Nat,2<=k/\k<=7/\wr.ownsRow (w.heap.size+1+1) 3 1 v k ((Tr.given.take k).map (Value.int .i64))/\lenOf v=k/\Below (w.heap.size+1+1) ((w.alloc (O1 G l.length c1 V Y c2)).alloc (O2 none 0 0 none 0 0)) wr)
  (fun v _=>7-lenOf v)
 case atStart=>
  refine⟨2,Bd,Bd,?_,rfl,(Vm _ _).alloc Fr _⟩;exact Br2 ((w.alloc (O1 G l.length c1 V Y c2)).alloc (O2 none 0 0 none 0 0)) (w.heap.size+1+1) (w.heap.size+1+1) (.i (-1)) (.i 0) 3 Fr (Wf _)
 case round=>
  obtain⟨k,d0,g3,c,d6,h⟩:=hrel;obtain⟨va,vc,rfl⟩:=Bg c;clear d6;have Z:=h.size;simp at Z;by_cases B:k<7
  ·go_wp2_with (at_builtin;refine Bvw _ rfl _ _ 26 rfl (w.heap.size+1+1) 3 i0 _ 1 8 Bxs I a8 a9 b0 rfl Ck _ _ _ rfl (c.alloc _) ⟨wr.heap.size,0,none⟩ 1 1 [.i 1] rfl rfl ?c1 ?c2 ?c3 ?c4 ?c5 ?_)
   case c1=>exact Dv _ _ _ _ rfl
   case c2=>intro u m;simp at m;subst m;rfl
   case c3=>unfold maxLen;omega
   case c4=>omega
   case c5=>simp;omega
   intro v' J C z _;obtain⟨d7,d8,rfl⟩:=Bg C;have a0:J.ownsRow (w.heap.size+1+1) 3 1 (.s d7 (k+1) d8) (k+1) ((Tr.given.take (k+1)).map (Value.int .i64)):=by
    have e:(Tr.given.take (k+1))=Tr.given.take k++[1]:=by
     match k,d0,B with
     | 2,_,_=>rfl
     | 3,_,_=>rfl
     | 4,_,_=>rfl
     | 5,_,_=>rfl
     | 6,_,_=>rfl
    rw[e,Bvx];simpa using C
   have K:=(h.alloc Bd (O4 1)).grown z Fm (fun j t=>(c.lt j t).1);clear z c C h;go_wp2;go_roundw
   case rel=>exact⟨k+1,Bd,Bd,a0,rfl,K⟩
   case measure=>simp[lenOf];omega
  obtain rfl:k=7:=Bd;have hB:Bl w wr:=(Bx w _ _).trans (h.mono Bd);have a4:=(h.block w.heap.size Bd).trans (Cb w _ _);have b1:=(Bvu wr (O3 none 0 0 none 0 0 none 0 0 none 0 0 none 0 0 none 0 0 none 0 0) _ (Pk a4)).trans a4;have A:=Bb b1 0;simp at A;have b2:=h.alloc Bd (O3 none 0 0 none 0 0 none 0 0 none 0 0 none 0 0 none 0 0 none 0 0);have q:(wr.alloc (O3 none 0 0 none 0 0 none 0 0 none 0 0 none 0 0 none 0 0 none 0 0)).ownsRow (w.heap.size+1+1) 105 1 (.s (.p wr.heap.size) 7 7) 7 (List.replicate 7 (.s none 0 0)):=Bmn wr _ _ _ rfl Bd _;have b3:=c.alloc (O3 none 0 0 none 0 0 none 0 0 none 0 0 none 0 0 none 0 0 none 0 0);clear c h;go_wp2
  go_loopw [3,4,18] (fun v u i L=>∃k:Nat,k<=l.length/\i=.i k/\L.ownsRow (w.heap.size+1+1) 3 1 v (7+k) ((Tr.given++((l.map Prod.fst).take k).map Rd.Cls.above).map (Value.int .i64)) /\
    L.ownsRow (w.heap.size+1+1) 105 1 u (7+k) (List.replicate 7 (.s none 0 0)++(l.map Prod.snd).take k) /\
    Below (w.heap.size+1+1) ((w.alloc (O1 G l.length c1 V Y c2)).alloc (O2 none 0 0 none 0 0)) L)
   (fun _ _ i _=>l.length-(intOf i).toNat)
  case atStart=>exact⟨0,Bd,rfl,by simpa[Tr.given] using b3,by simpa using q,b2⟩
  case round=>
   clear b3 b2 hB a4 b1 A Z q;obtain⟨k,hk,rfl,c,q,h⟩:=hrel;obtain⟨va,vc,rfl⟩:=Bg c;obtain⟨za,zc,rfl⟩:=Bg q;have Z:=h.size;simp at Z;have hB:Bl w wr:=(Bx w _ _).trans (h.mono Bd);by_cases B:k<l.length
   ·obtain⟨g,hg,b4,_,D⟩:=Cf (Cx hc.1 (Kp.of_below (e:=none) hB) Ck) Bd;obtain⟨e1,e2,e3⟩:=Ns l k B;have A:=D (k*2) Bd;have N:=D (k*2+1) Bd;rw[e1]at A;rw[e2]at N;obtain⟨O,Q,m⟩:=Bg (hc.2 _ (Bvh B));rw[m]at N;generalize b5:l[k].1.above=F at *;have d9:Hid (List.map Rd.Cls.above [l[k].1]=[F]):=by unfold Hid;simp[b5]
    have HA:Hid ((l.map Prod.fst).take (k+1)=(l.map Prod.fst).take k++[l[k].1]):=by
     unfold Hid;rw[Bvs (by simpa using B)];simp
    have HB:Hid ((l.map Prod.snd).take (k+1)=(l.map Prod.snd).take k++[.s O l[k].1.fields.length Q]):=by
     unfold Hid;rw[Bvs (by simpa using B),<- m];simp
    generalize l[k].1.fields.length=fl at *;clear D e1 e2 e3 b5 m;subst hg;generalize b6:((Tr.given++((l.map Prod.fst).take k).map Rd.Cls.above).map (Value.int .i64))=xs at c;have f2:=Bc b6;clear b6;generalize b7:(List.replicate 7 (Value.slice none 0 0)++(l.map Prod.snd).take k)=ys at q;have f3:=Bc b7;clear b7;go_wp2_with (at_builtin;refine Bvw _ rfl _ _ 26 rfl (w.heap.size+1+1) 3 i0 _ 1 8 Bxs I a8 a9 b0 rfl Ck _ _ _ rfl ((c.alloc _).alloc _) ⟨wr.heap.size+1,0,none⟩ 1 1 [.i F] rfl rfl ?d1 ?d2 ?d3 ?d4 ?d5 ?_)
    case d1=>exact Dv _ _ _ _ Fr
    case d2=>intro u m;simp at m;subst m;rfl
    case d3=>unfold maxLen;omega
    case d4=>omega
    case d5=>simp;omega
    intro v' J C z _;have a0:J.ownsRow (w.heap.size+1+1) 3 1 v' (7+(k+1)) ((Tr.given++((l.map Prod.fst).take (k+1)).map Rd.Cls.above).map (Value.int .i64)):=by
     have e:((Tr.given++((l.map Prod.fst).take (k+1)).map Rd.Cls.above).map (Value.int .i64))=((Tr.given++((l.map Prod.fst).take k).map Rd.Cls.above).map (Value.int .i64))++[.i F]:=by
      rw[Ba HA,Bvx (f:=Rd.Cls.above),Ba d9];simp only[Bvx,Bwe];rfl
     rw[e,Ba f2];exact C
    have K:=((h.alloc Bd _).alloc Fm _).grown z Fm (fun j t=>(c.lt j t).1);have a3:=Cx ((q.alloc (O5 F O fl Q)).alloc (O4 F)) (Kp.of_grown (b:=w.heap.size+1+1) z ((c.alloc _).alloc _)) Ck;have b8:J.heap[wr.heap.size]?=some (O5 F O fl Q):=Kp.of_grown (b:=0) z ((c.alloc _).alloc _) _ _ _ (Bv5 _) ((Bvu _ _ _ Fr).trans (Bf wr _)) Ck;have y1:=Bb b8 1;have ly:=Pk b8;simp at y1;clear z c C h q;have f4:=K.size;simp at f4;go_wp2_with (at_builtin;refine Bvw _ rfl _ _ 126 rfl (w.heap.size+1+1) 105 j0 _ 1 24 underlying126 t c7 c8 c9 rfl Ck _ _ _ rfl (a3.alloc _) ⟨J.heap.size,0,none⟩ 1 1 [.s O fl Q] rfl rfl ?d1 ?d2 ?d3 ?d4 ?d5 ?_)
    case d1=>exact Dv _ _ _ _ Fr
    case d2=>intro u m;simp at m;subst m;rfl
    case d3=>unfold maxLen;omega
    case d4=>omega
    case d5=>simp;omega
    intro f5 L b9 a5 _;have f6:=Cx (a0.alloc (O6 O fl Q)) (Kp.of_grown (b:=w.heap.size+1+1) a5 (a3.alloc _)) Ck;have f7:L.ownsRow (w.heap.size+1+1) 105 1 f5 (7+(k+1)) (List.replicate 7 (.s none 0 0)++(l.map Prod.snd).take (k+1)):=by
     rw[Ba HB,<- Bwe,Ba f3];exact b9
    have f8:=(K.alloc Bd _).grown a5 Fm (fun j t=>(a3.lt j t).1);clear a5 a0 a3 b9 K;go_wp2;go_roundw
    case rel=>exact⟨k+1,Bd,Lt,f6,f7,f8⟩
    case measure=>simp[intOf];omega
   obtain rfl:k=l.length:=Bd;have a6:=(h.block (w.heap.size+1) Bd).trans (Bv w _ _);obtain⟨A,N⟩:=cl2 a6;obtain⟨f0,f1⟩:=fr2 a6;simp at A N;have ht:((l.map Prod.fst).take l.length)=l.map Prod.fst:=Bv0 Fr;rw[ht]at c;have f9:((l.map Prod.snd).take l.length)=l.map Prod.snd:=Bv0 Fr;rw[f9]at q;obtain⟨g,g0,b4,g4,D⟩:=Cf c Bd;subst g0;have HC:=Bc D;clear D;go_wp2_with fail;refine tb (.agg #[.s (.p g) (7+l.length) vc,.s za (7+l.length) zc]) (by simp[results,results69,go_sem,A,N]) ?_;refine⟨g,vc,za,7+l.length,zc,by rw[Ix,Bvr],⟨by simpa using b4,fun i I=>?_⟩,?_,Bd,(hB.setCell Fr _).setCell Fr _⟩
   ·rw[Bvj (w:=wr) ((Bvg _ _ _ g Fm).trans (Bvg wr _ _ g Fm))];have g1:i<((Tr.tree (l.map Prod.fst)).map (Value.int .i64)).length:=by simpa using I
    have h2:=Ba HC i g1;have h3:((Tr.tree (l.map Prod.fst)).map (Value.int .i64))[i]?=some (.i ((Tr.tree (l.map Prod.fst)).getD i 0)):=by
     rw[Bv8,Th,Ws I];rfl
    rw[h2];exact h3
   exact Cx (D8 q Bd) (Kp.set2 a6 _ _) Ck
variable {ya:Option Addr}{yn yc:Nat}
def Gc(l:TP)(k:Nat)(h:k<l.length):(Bu l)[k*2]?=some (.i l[k].1)/\(Bu l)[k*2+1]?=some (.i l[k].2)/\k*2+1<(Bu l).length:=by
 induction l generalizing k with
 | nil=>simp at h
 | cons x r ih =>
  cases k with
  | zero=>simp[Bu]
  | succ j =>
   have b:j<r.length:=by simpa using h
   obtain⟨p,q,z⟩:=ih j b;have e:Bu (x::r)=.i x.1::.i x.2::Bu r:=by simp[Bu]
   rw[e,show (j+1)*2=j*2+1+1 by omega];refine⟨by simpa using p,by simpa using q,Fm⟩
def Rn{z:TI}{x:Int×Int}{r:TP}:Tr.allPlainB z (x::r)=(Tr.plainB z x.1 x.2&&Tr.allPlainB z r):=by simp[Tr.allPlainB]
def Wk(l:TI)(a:TA)(h:Nat)(I:TA)(J K b:Nat)(c:TP)(w:TW)(a5:c.length<=1000)(L:Dp w b (.s I J K) c):Calls prog 158 #[.agg #[.s a l.length h,.s ya yn yc],.s I J K] w fun e w'=>e=.r (.bool (Tr.allPlainB l c))/\Bl w w':=by
 obtain⟨xa,xc,N⟩:=Bg L;simp only[Value.slice.injEq]at N;obtain⟨rfl,a0,rfl⟩:=N;subst a0;generalize f:Tr.allPlainB l c=r;have p:Hid (Tr.allPlainB l (c.drop 0)=r):=by unfold Hid;simpa using f
 clear f;have O:Bl w (w.alloc (O2 a l.length h ya yn yc)):=QN _;have Q:=Bf w (O2 a l.length h ya yn yc);go_in;go_wp2
 go_loopw [9] (fun i wr=>∃k:Nat,k<=c.length/\i=.i k/\Hid (Tr.allPlainB l (c.drop k)=r)/\Bl w wr /\
   wr.heap[w.heap.size]?=some (O2 a l.length h ya yn yc))
  (fun i _=>c.length-(intOf i).toNat)
 case atStart=>exact⟨0,Bd,rfl,p,O,Q⟩
 case round=>
  clear O Q p;obtain⟨k,hk,rfl,p,j,z⟩:=hrel;have V:=j.size;by_cases Y:k<c.length
  ·obtain⟨g,hg,a6,a1,C⟩:=Cf (Cx L (Kp.of_below (e:=none) j) Ck) Bd;obtain⟨Z,e2,e3⟩:=Gc c k Y;have x0:=C (k*2) Bd;have x1:=C (k*2+1) Bd;rw[Z]at x0;rw[e2]at x1;have hd:c.drop k=c[k]::c.drop (k+1):=Wr Y;have f:=Ba p;rw[hd,Rn]at f;generalize a2:c[k].1=A at *;generalize a3:c[k].2=B at *;obtain⟨c0,c1⟩:=cl2 z;have lx:=Pk z;simp at c0 c1;clear C Z e2 e3 a2 a3 hd a1;subst hg;cases m:Tr.plainB l A B with
   | true =>
    have q:Hid (Tr.allPlainB l (c.drop (k+1))=r):=by unfold Hid;rw[<- f,m];simp
    have D:=Bc m;clear m f;go_wp2_with fail;refine(Ue l a h A B _).mono ?_;rw[Ba D];rintro e F ⟨rfl,t⟩;have G:Bl w F:=(j.alloc V _).trans (t.mono Fm);have a4:=stay t ((Bvu wr (O7 A B) _ lx).trans z);clear t j z c0 c1 x0 x1 lx;go_wp2;go_roundw
    case rel=>exact⟨k+1,Bd,Lt,q,G,a4⟩
    case measure=>simp[intOf];omega
   | false =>
    have v:r=false:=by rw[<- f,m];simp
    have q:=Bc v;have D:=Bc m;clear m f v;go_wp2_with fail;refine(Ue l a h A B _).mono ?_;rw[Ba D];rintro e F ⟨rfl,t⟩;have G:Bl w F:=(j.alloc V _).trans (t.mono Fm);go_wp2;go_ret;exact⟨by rw[Ba q];rfl,G⟩
  have v:r=true:=by rw[<- Ba p,Bvi Bd];rfl
  have q:=Bc v;clear v;go_wp2;go_ret;exact⟨by rw[Ba q];rfl,j⟩
def Tr.inCl(l:TI):Nat->List Rd.Cls->Int × Int
 | _,[]=>(0,0)
 | k,c::r=>if 7+(k:Int)<=c.above then (3,7+(k:Int)) else if Tr.allPlainB l c.fields=false then (3,7+(k:Int)) else Tr.inCl l (k+1) r
def Bfo(L Z:TA)(n1 v n2 c2 b:Nat)(l:List (Rd.Cls×Value))(w:TW)(hl:l.length<=6)(b6:∀p∈l,p.1.fields.length<=1000)(hc:Ex w b (.s L n1 v) l):Calls prog 105 #[.agg #[.s L n1 v,.s Z n2 c2]] w fun e w' => e=.r (.agg #[.i (Tr.inCl (Tr.tree (l.map Prod.fst)) 0 (l.map Prod.fst)).1,.i (Tr.inCl (Tr.tree (l.map Prod.fst)) 0 (l.map Prod.fst)).2,.i 0])/\Bl w w':=by
 obtain⟨xa,xc,a7⟩:=Bg hc.1;simp only[Value.slice.injEq]at a7;obtain⟨rfl,b7,rfl⟩:=a7;subst b7;generalize ht:Tr.tree (l.map Prod.fst)=T;generalize c:Tr.inCl T 0 (l.map Prod.fst)=r;have HT:=Bc ht;have I:Hid (Tr.inCl T 0 ((l.map Prod.fst).drop 0)=r):=by unfold Hid;simpa using c
 clear c ht;have a8:=Bx w (O1 L l.length v Z n2 c2) (O8 0 0 0);go_in;go_wp2_with fail;refine(Sn L Z l.length v n2 c2 b l _ hl (hc.kp (Kp.of_below (e:=none) a8) Ck Ck)).mono ?_;rw[Ba HT];rintro e N ⟨g,B,ya,yn,yc,rfl,c6,b8,hg,O⟩;clear b8;have a0:=a8.trans (O.mono Fm);have C:=stay O (Cb w _ _);have h:=stay O (Bv w _ _);have b9:=Pk h;have J:=Bb C 0;simp at J;have c7:=Pk C;have a9:=Bf N (O2 (.p g) T.length B ya yn yc);have b0:Bl w (N.alloc (O2 (.p g) T.length B ya yn yc)):=a0.alloc a0.size _;have b1:=(Bvu N (O2 (.p g) T.length B ya yn yc) _ b9).trans h;clear C h a0 O;go_wp2
 go_loopw [12] (fun i wr=>∃k:Nat,k<=l.length/\i=.i k/\Hid (Tr.inCl T k ((l.map Prod.fst).drop k)=r)/\Bl w wr /\
   wr.heap[N.heap.size]?=some (O2 (.p g) T.length B ya yn yc)/\wr.heap[w.heap.size+1]?=some (O8 0 0 0))
  (fun i _=>l.length-(intOf i).toNat)
 case atStart=>exact⟨0,Bd,rfl,I,b0,a9,b1⟩
 case round=>
  clear b0 a9 b1 I J;obtain⟨k,hk,rfl,I,z,K,h⟩:=hrel;have b2:=z.size;have b3:=Pk K;have a3:=Pk h;by_cases Q:k<l.length
  ·have a4:=hc.kp (Kp.of_below (e:=none) z) Ck Ck;obtain⟨g',c3,c8,c4,a5⟩:=Cf a4.1 Bd;obtain⟨e1,e2,e3⟩:=Ns l k Q;have J:=a5 (k*2) Bd;have x1:=a5 (k*2+1) Bd;rw[e1]at J;rw[e2]at x1;have b4:=b6 _ (Bvh Q);have V:=a4.2 _ (Bvh Q);obtain⟨D,F,hu⟩:=Bg V;rw[hu]at x1 V;have hd:(l.map Prod.fst).drop k=l[k].1::(l.map Prod.fst).drop (k+1):=by
    rw[Wr (by simpa using Q)];simp
   have c:=Ba I;rw[hd,Tr.inCl]at c;generalize c5:l[k].1=f at *;obtain⟨c0,v⟩:=cl2 K;simp at c0 v;clear a5 e1 e2 e3 c5 hd c4 hu a4;subst c3;by_cases h1:7+(k:Int)<=f.above;·rw[Sp h1]at c;have A:=Bc c;clear c;obtain⟨j,m,q⟩:=cl3 h;obtain⟨f0,f1,f2⟩:=fr3 h;simp at j m q;go_wp2;refine tb (.agg #[.i 3,.i (7+(k:Int)),.i 0]) (by simp[results,B0c,go_sem,j,m,q,a3]) ?_;exact⟨by rw[<- Ba A],(((z.setCell Fr _).setCell Fr _).setCell Fr _).alloc Fm _⟩
   rw[Pf h1]at c;cases G:Tr.allPlainB T f.fields with
   | true =>
    rw[G,Pf Fr]at c;have A:=Bc c;have HP:=Bc G;clear c G;go_wp2_with fail;refine(Wk T (.p g) B D f.fields.length F b f.fields _ b4 (V.kp (Kp.alloc (e:=none) _ _) Ck)).mono ?_;rw[Ba HP];rintro e w2 ⟨rfl,t⟩;have a6:Bl w w2:=(z.alloc b2 _).trans (t.mono Fm);have b5:=stay t ((Bvu wr (O5 f.above D f.fields.length F) _ b3).trans K);have Y:=stay t ((Bvu wr (O5 f.above D f.fields.length F) _ a3).trans h);clear t z K h J x1 c0 v;go_wp2;go_roundw
    case rel=>exact⟨k+1,Bd,Lt,A,a6,b5,Y⟩
    case measure=>simp[intOf];omega
   | false =>
    rw[G,Sp rfl]at c;have A:=Bc c;have HP:=Bc G;clear c G;go_wp2_with fail;refine(Wk T (.p g) B D f.fields.length F b f.fields _ b4 (V.kp (Kp.alloc (e:=none) _ _) Ck)).mono ?_;rw[Ba HP];rintro e w2 ⟨rfl,t⟩;have a6:Bl w w2:=(z.alloc b2 _).trans (t.mono Fm);have b5:=stay t ((Bvu wr (O5 f.above D f.fields.length F) _ b3).trans K);have Y:=stay t ((Bvu wr (O5 f.above D f.fields.length F) _ a3).trans h);obtain⟨j,m,q⟩:=cl3 Y;obtain⟨f0,f1,f2⟩:=fr3 Y;simp at j m q;go_wp2;refine tb (.agg #[.i 3,.i (7+(k:Int)),.i 0]) (by simp[results,B0c,go_sem,j,m,q]) ?_;exact⟨by rw[<- Ba A],((a6.setCell Fr _).setCell Fr _).setCell Fr _⟩
  have C:r=(0,0):=by rw[<- Ba I,Bvi Fm];rfl
  have A:=Bc C.symm;clear C;obtain⟨j,m,q⟩:=cl3 h;obtain⟨f0,f1,f2⟩:=fr3 h;simp at j m q;go_wp2;refine tb (.agg #[.i 0,.i 0,.i 0]) (by simp[results,B0c,go_sem,j,m,q]) ?_;exact⟨by rw[<- Ba A],((z.setCell Fr _).setCell Fr _).setCell Fr _⟩
def Sb{α:Type}(P:α->Prop)(f:Rd.St->α×Rd.St)(h:∀t,P (f t).1)(n:Nat)(t:Rd.St):∀x∈(Rd.rep f n t).1,P x:=by
 induction n with
 | zero=>simp[Rd.rep]
 | succ k ih =>
  intro x b;simp only[Rd.rep,Bwt,Bxa]at b;rcases b with b|b
  ·exact ih x b
  rw[b];exact h _
def Xt(s:TB):(Rd.read s).1.classes.length<=6/\∀c∈(Rd.read s).1.classes,c.fields.length<=1000:=by
 unfold Rd.read
 split
 ·simp
 split
 ·simp
 simp only[Rd.fil];refine⟨?_,?_⟩
 ·rw[Rd.rep_len];have:=Rd.cn_bd s 0 6 (Rd.ex s 77 (Rd.ex s 83 ⟨0,false⟩)) Bd;omega
 refine Sb _ _ (fun t=>?_) _ _;simp only[Rd.cls];rw[tys_len];have:=Rd.cn_bd s 0 4 (Rd.nx s t).2 Bd;omega
def W8(w:TW)(b c e:Obj):(((w.alloc b).alloc c).alloc e).heap[w.heap.size]?=some b/\(((w.alloc b).alloc c).alloc e).heap[w.heap.size+1]?=some c/\(((w.alloc b).alloc c).alloc e).heap[w.heap.size+1+1]?=some e:=by
 refine⟨?_,?_,?_⟩
 ·rw[Bvu _ _ _ (by first|(simp;done)|(simp;omega)),Bvu _ _ _ (by first|(simp;done)|(simp;omega))];exact Bf w b
 ·rw[Bvu _ _ _ (by first|(simp;done)|(simp;omega))];simpa using Bf (w.alloc b) c
 simpa using Bf ((w.alloc b).alloc c) e
def Bk{o:Obj}(h:w.heap[k]?=some o)(b:Obj):(w.alloc b).heap[k]?=some o:=(Bvu w b k (Pk h)).trans h
end Go.Proofs.YtpcgnjolfahacaaGreat
