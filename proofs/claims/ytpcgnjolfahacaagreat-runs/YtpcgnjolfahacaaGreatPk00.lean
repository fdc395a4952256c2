/- the proof's parts -/
import Derived.Test.YtpcgnjolfahacaaGreatRows
import Derived.WalkKit
import Derived.WalkSpells
import Derived.WalkLawsBesides
import Derived.Deep.QuietTactic
import Derived.BigQuiet
import Derived.Deep.RegionHeld3
import Derived.Deep.Slices
import Derived.Deep.Strs
import Derived.ProofKit
import Derived.OpenShut
import Derived.ShutString
import Derived.ChangeOld
import Derived.Below
import Derived.Lib.SmallJoins
import Derived.Laws.AppendOwnNone
import Derived.Laws.IdiomStrings
import Derived.Deep.RegionHeld
import Derived.Deep.Cut
import Derived.Deep.CutRange
import Derived.Maps.AppendAt
import Derived.Laws.Rows
import Derived.Laws.Tables
import Derived.Laws.MakeOwn
import Derived.Deep.MidRow
import Derived.ChangeSlices
import Derived.Laws.CopyOwn
import Derived.OwnWalk
import Derived.Laws.OwnMore
import Derived.Deep.RegionLaw
import Derived.Laws.CopyRow
import Derived.JoinedCond
set_option maxRecDepth 100000
set_option maxHeartbeats 40000000
set_option linter.unusedVariables false
set_option linter.unusedSimpArgs false
set_option linter.defProp false
set_option linter.defProp false
abbrev Option.p(k:Nat):Option Go.Addr:=some ⟨k,0,none⟩
namespace Go
abbrev Value.i(n:Int):Value:=.int .i64 n
abbrev Value.s(a:Option Addr)(n c:Nat):Value:=.slice a n c
abbrev TypeDesc.s:=@TypeDesc.slice
abbrev Value.q(b i:Nat):Value:=.pointer (some ⟨b,i,none⟩)
abbrev Ending.r(v:Value):Ending:=.returned v
abbrev Addr.a(b i:Nat):Addr:=⟨b,i,none⟩
abbrev World.C(w:World)(b i:Nat)(v:Value):Prop:=w.cell? ⟨b,i,none⟩=some v
end Go
namespace Go.Proofs.YtpcgnjolfahacaaGreat
open Go.RowKit
abbrev TP:=List (Int × Int)
abbrev TB:=List UInt8
abbrev TA:=Option Addr
abbrev TI:=List Int
abbrev TV:=List Value
abbrev TW:=World
abbrev TX:=Value
theorem tb{P:Program}{fn:Func}{R:Ending→World→Prop}{a:Act}{w:World}(v:Value)(hr:(results fn a.tmps).run P w=.ok v w)(hR:R (.returned v) w)(hd:a.defers=[]:=by rfl):bodyPost P fn R .ret a w:=bodyPost_ret hr hd hR
abbrev Bl(w w':World):Prop:=Below w.heap.size w w'
theorem Qm{P:Program}{f:FuncId}{a:Array Value}{w:World}{v:Ending}{T:World→Prop}{R:Ending→World→Prop}(h:Calls P f a w (fun e x=>e=v∧T x))(k:∀ x,T x→R v x):Calls P f a w R:=h.mono (fun _ _ ⟨z,y⟩=>z▸k _ y)
theorem Qb{P:Program}{f:FuncId}{a:Array Value}{u w:World}{v:Ending}{R:Ending→World→Prop}(h:Calls P f a w (fun e x=>e=v∧Below w.heap.size w x))(g:Below u.heap.size u w)(k:∀ x,Below w.heap.size w x→Below u.heap.size u x→R v x):Calls P f a w R:=Qm h (fun _ y=>k _ y (g.trans (y.mono g.size)))
theorem Bd{p:Prop}(h:p:=by (try simp)<;>omega):p:=h
theorem Ck{p:Prop}(h:p:=by omega):p:=h
theorem Fm{p:Prop}(h:p:=by decide):p:=h
theorem Fr{p:Prop}(h:p:=by simp;omega):p:=h
theorem Hd{p:Prop}(h:p:=by simp):p:=h
theorem Ls{p:Prop}(h:p:=by rfl):p:=h
theorem Lt{p:Prop}(h:p:=by kernel_rfl):p:=h
theorem Mc{p:Prop}(h:p:=by simp only;omega):p:=h
theorem Mg{p:Prop}(h:p:=by go_num):p:=h
theorem Pf{p:Prop}(h:p:=by unfold maxLen;omega):p:=h
def Pk:=@if_neg
def Sp:=@lt_of_block
def Th:=@if_pos
def Vm:=@List.getD_eq_getElem?_getD
def Ws:=@List.length_append
def Brj:=@List.drop_eq_getElem_cons
def Brk:=@Below.heap_setCell
def Brl:=@List.getElem?_eq_getElem
def Brm:=@Below.refl
def Brn:=@List.getElem_mem
def Brp:=@Int.eq_ofNat_of_zero_le
def Brq:=@List.drop_eq_nil_of_le
def Brr:=@World.cell?_of_block
def Brs:=@Nat.lt_of_lt_of_le
def Bru:=@Nat.le_refl
def Brw:=@World.ownsRow_nil
def Brt:=@World.cell?_setCell_far
def Brx:=@Int.toNat_natCast
def Bry:=@Below.setCell
def Brz:=@Nat.zero_add
def Br0:=@List.getElem?_append_right
def Br1:=@List.length_map
def Br3:=@wpList_append_own
def Br2:=@Below.heap_alloc
def Br5:=@Nat.le_trans
def Br6:=@List.getElem?_append_left
def Br7:=@List.length_cons
def Br8:=@and_true
def Br9:=@Tryz.underlying212
def Bsa:=@info_parts
def Bsb:=@Nat.zero_le
def Bsc:=@List.mem_map_of_mem
def Bsd:=@List.mem_cons_self
def Bse:=@List.map_append
def Bsf:=@List.getElem?_map
def Bsh:=@List.mem_cons_of_mem
def Bsi:=@List.append_assoc
def Bsj:=@wpList_load_row
def Bsk:=@Tryz.underlying105
def Br4:=@wp_region_held_drew
def Bsg:=@wpAnyH_done
def Bsl:=@List.length_set
def Bsn:=@List.getElem?_cons_succ
def Bso:=@List.eq_nil_of_length_eq_zero
def Bsp:=@List.set_cons_succ
def Bsq:=@Bool.and_eq_true
def Bsm:=@Nat.zero_mul
def Bri:=@AllReadyH.cons
def Bsr:=@Int.toNat_of_nonneg
def Bss:=@List.take_succ_eq_append_getElem
def Bst:=@List.flatMap_append
def Bsu:=@World.cell?_alloc_lt
def Bsv:=@decide_eq_true_eq
def Bsw:=@List.map_cons
def Bsz:=@List.flatMap_cons
def Bs0:=@List.getElem?_take
def Bs1:=@List.mem_append
def Bs2:=@List.length_nil
def Bs3:=@List.getElem?_eq_none
def Bsy:=@Tryz.results275
def Bs4:=@Below.alloc
def Bs5:=@List.cons_append
def Bs6:=@List.mem_of_getElem?
def Bs7:=@List.take_of_length_le
def Wf:=@bodyPost_ret
def Bs8:=@List.length_singleton
def Bs9:=@List.set_append_right
def Bta:=@Tryz.underlying26
def Bsx:=@Nat.le_of_lt
def Btb:=@Array.size_push
def Btc:=@List.sublist_cons_self
def Btd:=@List.Sublist.cons_cons
def Bte:=@List.filterMap_cons_some
def Btf:=@results_none
def Btg:=@List.append_nil
def Bth:=@List.mem_singleton
def Bti:=@decide_eq_false_iff_not
def Btj:=@Ne.symm
def Btk:=@List.mem_of_mem_drop
def Btl:=@wpList_append_own_at
def Btm:=@Tryz.underlying3
def Btn:=@List.getElem_cons_zero
def Bto:=@And.intro
def Btp:=@List.reverse_cons
def Btq:=@Prod.ext
def Btr:=@List.length_take
def Bts:=@Bool.true_and
def Btt:=@List.getElem?_cons_zero
def Btu:=@Nat.add_sub_cancel_left
def Bro:=@AllReadyH.nil
def Btv:=@if_false
def Btw:=@List.take_take
def Btx:=@DataW.trod_int
def Bty:=@Bool.or_eq_false_iff
def Brv:=@wpAnyH_ready
def Btz:=@List.nil_append
def Bt1:=@List.filterMap_cons_none
def Bt2:=@List.getElem?_set_ne
def Bt3:=@Int.ofNat_eq_natCast
def Bt4:=@List.drop_append_of_le_length
def Bt6:=@Bool.false_and
def Bt7:=@Option.bind_some
def Bt8:=@List.getElem?_set_self
def Bt9:=@ownsRow_setCell_below
def Bua:=@List.take_append_drop
def Bub:=@List.mem_cons
def Buc:=@Nat.add_assoc
def Bud:=@Below.drew
def Bue:=@List.replicate_succ'
def Buf:=@List.set_append_left
def Bt5:=@decide_eq_true
def Buh:=@List.not_mem_nil
def Buj:=@List.any_cons
def Bul:=@Tryz.results186
def Bum:=@Nat.min_eq_left
def Bun:=@wpAnyH_take
def Bug:=@Nat.one_mul
def Buo:=@List.take_append_of_le_length
def Bup:=@List.getElem?_set
def Buq:=@List.getElem?_toArray
def Bur:=@Tryz.results22
def Bus:=@Nat.sub_self
def But:=@List.map_set
def Buu:=@List.map_nil
def Buv:=@List.take_length
def Buw:=@true_and
def Bux:=@Array.toList_setIfInBounds
def Buy:=@List.take_succ_cons
def Bui:=@all_oneCell_toArray
def Buz:=@List.Sublist.append
def Bu0:=@Array.getElem?_eq_getElem
def Bu1:=@Tryz.results163
def Buk:=@decide_eq_false
def Bu2:=@World.cell?_setCell_other
def Bu3:=@Tryz.results298
def Bu4:=@Tryz.underlying152
def Bu5:=@Tryz.underlying116
def Bu6:=@Tryz.results87
def Bu7:=@Int.le_refl
def Bu8:=@List.set_eq_take_append_cons_drop
def Bu9:=@List.any_eq_true
def Bva:=@Tryz.results138
def Bvb:=@beq_iff_eq
def Bvc:=@Addr.add_lit
def Bvd:=@Nat.succ_mul
def Bve:=@Tryz.results162
def Bvf:=@Tryz.results106
def Bvg:=@List.map_map
def Bvh:=@Nat.add_zero
def Bvi:=@Int.natCast_add
def Bvj:=@beq_eq_false_iff_ne
def Bvk:=@List.drop_succ_cons
def Bvl:=@List.getElem_of_mem
def Bvm:=@World.rangeAt_alloc
def Bvn:=@List.length_reverse
def Bvo:=@Tryz.results67
def Bvp:=@Tryz.results56
def Bvq:=@List.Perm.cons
def Bvr:=@Option.isSome_none
def Bvs:=@List.set_cons_zero
def Bvt:=@Nat.lt_of_le_of_lt
def Bvu:=@Nat.add_sub_cancel
def Bvv:=@List.append_of_mem
def Bvw:=@Tryz.underlying113
def Bvx:=@List.pairwise_cons
def Bvy:=@List.take_set
def Bvz:=@List.setIfInBounds_toArray
def Bv0:=@Int.tmod_eq_emod_of_nonneg
def Bv1:=@List.ext_getElem?
def Bv2:=@Result.andThen_ok
def Bv3:=@List.Sublist.refl
def Bv4:=@List.extract_eq_take_drop
def Bv5:=@List.mem_or_eq_of_mem_set
def Bv6:=@List.getElem_append_right
def Bv7:=@if_true
def Bv8:=@or_false
def Bv9:=@List.length_drop
def Bwa:=@setRow_other
def Bwb:=@Option.getD_some
def Bwd:=@List.flatMap_nil
def Bwe:=@World.block_lt_of_cell?
def Bwf:=@List.getLast?_singleton
def Bwg:=@Tryz.results105
def Bwh:=@Tryz.results216
def Bwi:=@Tryz.results227
def Bwj:=@Bool.or_eq_true
def Bwk:=@Tryz.results292
def Bwl:=@Tryz.results129
def Bwm:=@Tryz.results131
def Bwn:=@Tryz.results127
def Bwo:=@ByteArray.data_extract
def Bwp:=@wpList_append_own_none
def Bwq:=@setRow_size
def Bwr:=@Tryz.results68
def Bws:=@Tryz.results45
def Bwt:=@Tryz.results53
def Bwu:=@List.length_replicate
def Bwv:=@Tryz.results21
def Bww:=@List.getElem_set_self
def Bwx:=@Array.toList_extract
def Bwy:=@List.mem_of_mem_take
def Bwz:=@Nat.mul_le_mul_right
def Bw0:=@List.reverse_reverse
def Bw1:=@List.getLast?_append
def Bw2:=@List.dropLast_concat
def Bw3:=@List.all_cons
def Bw4:=@Sem.run_bind
def Bw5:=@Sem.run_pure
def Bw6:=@setRow_heap
def Bw7:=@Nat.mul_one
end Go.Proofs.YtpcgnjolfahacaaGreat
namespace Go.Proofs.YtpcgnjolfahacaaGreat
open Go.RowKit Go.Proofs.Tryz
namespace Rd
structure St where
 pos:Nat
 bad:Bool
def nx (s:TB)(t:St):Int × St :=
 if t.bad=true then (0,⟨t.pos,true⟩)
 else if s.length<=t.pos then (0,⟨t.pos,true⟩)
 else (((s[t.pos]?.getD 0).toNat:Int),⟨t.pos+1,false⟩)
def ex (s:TB)(b:Int)(t:St):St :=
 if (nx s t).1=b then (nx s t).2 else ⟨(nx s t).2.pos,true⟩
def cn (s:TB)(least most:Int)(t:St):Int × St :=
 if (nx s t).1<least then (0,⟨(nx s t).2.pos,true⟩)
 else if most<(nx s t).1 then (0,⟨(nx s t).2.pos,true⟩)
 else nx s t
def ty (s:TB)(t:St):(Int × Int) × St :=
 (((nx s t).1,(nx s (nx s t).2).1),(nx s (nx s t).2).2)
def rep {α:Type}(f:St->α × St):Nat->St->List α × St
 | 0,t=>([],t)
 | k+1,t=>((rep f k t).1++[(f (rep f k t).2).1],(f (rep f k t).2).2)
def rep_len{α:Type}(f:St->α×St)(n:Nat)(t:St):(rep f n t).1.length=n:=by
 induction n with
 | zero=>rfl
 | succ k ih=>simp[rep,ih]
def tys (s:TB)(n:Nat)(t:St):List (Int × Int) × St:=rep (ty s) n t
structure Cls where
 above:Int
 fields:List (Int × Int)
def cls (s:TB)(t:St):Cls × St :=
 let a:=nx s t
 let n:=cn s 0 4 a.2
 let l:=tys s n.1.toNat n.2
 (⟨a.1,l.1⟩,l.2)
def codes(s:TB)(t:St):List Int × St :=
 let n:=cn s 1 120 t
 rep (nx s) n.1.toNat n.2
structure Hnd where
 frm:Int
 til:Int
 target:Int
 cl:Int
def hnd (s:TB)(t:St):Hnd × St :=
 let a:=nx s t
 let b:=nx s a.2
 let c:=nx s b.2
 let d:=nx s c.2
 (⟨a.1,b.1,c.1,d.1⟩,d.2)
def hnds (s:TB)(t:St):List Hnd × St :=
 let n:=cn s 0 4 t
 rep (hnd s) n.1.toNat n.2
structure Mp where
 place:Int
 locals:List (Int × Int)
 stack:List (Int × Int)
def mp (s:TB)(locals stack:Int)(t:St):Mp × St :=
 let a:=nx s t
 let l:=tys s locals.toNat a.2
 let h:=cn s 0 stack l.2
 let k:=tys s h.1.toNat h.2
 (⟨a.1,l.1,k.1⟩,k.2)
def mps (s:TB)(locals stack:Int)(t:St):List Mp × St :=
 let n:=cn s 0 64 t
 rep (mp s locals stack) n.1.toNat n.2
structure Mth where
 cl:Int
 name:Int
 params:List (Int × Int)
 result:Int × Int
 locals:Int
 stack:Int
 code:List Int
 handlers:List Hnd
 maps:List Mp
def mth (s:TB)(t:St):Mth × St :=
 let a:=nx s t
 let b:=nx s a.2
 let p:=cn s 0 4 b.2
 let ps:=tys s p.1.toNat p.2
 let r:=ty s ps.2
 let l:=cn s 0 8 r.2
 let h:=cn s 0 8 l.2
 let c:=codes s h.2
 let hs:=hnds s c.2
 let ms:=mps s l.1 h.1 hs.2
 (⟨a.1,b.1,ps.1,r.1,l.1,h.1,c.1,hs.1,ms.1⟩,ms.2)
structure Fil where
 classes:List Cls
 methods:List Mth
def fil (s:TB)(t:St):Fil × St :=
 let a:=ex s 83 t
 let b:=ex s 77 a
 let n:=cn s 0 6 b
 let cs:=rep (cls s) n.1.toNat n.2
 let m:=cn s 1 6 cs.2
 let ms:=rep (mth s) m.1.toNat m.2
 (⟨cs.1,ms.1⟩,ms.2)
def nx_bd(s:TB)(t:St):0<=(nx s t).1/\(nx s t).1<=255:=by
 unfold nx
 split
 ·simp
 split
 ·simp
 have:=(s[t.pos]?.getD 0).toNat_lt
 constructor<;>simp<;>omega
def cn_bd(s:TB)(a b:Int)(t:St)(c:0<=b):0<=(cn s a b t).1/\(cn s a b t).1<=b:=by
 have:=nx_bd s t;unfold cn
 split
 ·simp[c]
 split
 ·simp[c]
 constructor<;>omega
end Rd
abbrev O0(a0:ByteArray)(a1:Int)(a2:Bool):Obj:=.cells #[.string a0,.int .i64 a1,.bool a2] 177
abbrev O1(a0:Option Addr)(a1 a2:Nat)(a3:Option Addr)(a4 a5:Nat):Obj:=.cells #[.slice a0 a1 a2,.slice a3 a4 a5] 84
abbrev O2(a0:Option Addr)(a1 a2:Nat)(a3:Option Addr)(a4 a5:Nat):Obj:=.cells #[.slice a0 a1 a2,.slice a3 a4 a5] 128
abbrev O3(a0:Option Addr)(a1 a2:Nat)(a3:Option Addr)(a4 a5:Nat)(a6:Option Addr)(a7 a8:Nat)(a9:Option Addr)(a10 a11:Nat)(a12:Option Addr)(a13 a14:Nat)(a15:Option Addr)(a16 a17:Nat)(a18:Option Addr)(a19 a20:Nat):Obj:=.cells #[.slice a0 a1 a2,.slice a3 a4 a5,.slice a6 a7 a8,.slice a9 a10 a11,.slice a12 a13 a14,.slice a15 a16 a17,.slice a18 a19 a20] 105
abbrev O4(a0:Int):Obj:=.cells #[.int .i64 a0] 3
abbrev O5(a0:Int)(a1:Option Addr)(a2 a3:Nat):Obj:=.cells #[.int .i64 a0,.slice a1 a2 a3] 139
abbrev O6(a0:Option Addr)(a1 a2:Nat):Obj:=.cells #[.slice a0 a1 a2] 105
abbrev O7(a0 a1:Int):Obj:=.cells #[.int .i64 a0,.int .i64 a1] 31
abbrev O8(a0 a1 a2:Int):Obj:=.cells #[.int .i64 a0,.int .i64 a1,.int .i64 a2] 86
abbrev O9(a0:Int)(a1:Option Addr)(a2 a3:Nat)(a4:Option Addr)(a5 a6:Nat):Obj:=.cells #[.int .i64 a0,.slice a1 a2 a3,.slice a4 a5 a6] 168
abbrev O10(a0:Int)(a1:Option Addr)(a2 a3:Nat):Obj:=.cells #[.int .i64 a0,.slice a1 a2 a3] 225
abbrev O11(a0:Option Addr)(a1 a2:Nat)(a3:Option Addr)(a4 a5:Nat):Obj:=.cells #[.slice a0 a1 a2,.slice a3 a4 a5] 47
abbrev O12(a0 a1:Int)(a2:Option Addr)(a3 a4:Nat)(a5 a6 a7 a8:Int)(a9:ByteArray)(a10:Option Addr)(a11 a12:Nat)(a13:Option Addr)(a14 a15:Nat)(a16 a17:Int):Obj:=.cells #[.int .i64 a0,.int .i64 a1,.slice a2 a3 a4,.int .i64 a5,.int .i64 a6,.int .i64 a7,.int .i64 a8,.string a9,.slice a10 a11 a12,.slice a13 a14 a15,.int .i64 a16,.int .i64 a17] 109
abbrev O13(a0 a1 a2 a3:Int):Obj:=.cells #[.int .i64 a0,.int .i64 a1,.int .i64 a2,.int .i64 a3] 235
abbrev O14(a0 a1 a2 a3:Int):Obj:=.cells #[.int .i64 a0,.int .i64 a1,.int .i64 a2,.int .i64 a3] 164
abbrev O15(a0 a1 a2:Int):Obj:=.cells #[.int .i64 a0,.int .i64 a1,.int .i64 a2] 219
abbrev O16(a0:Option Addr)(a1 a2:Nat)(a3:Option Addr)(a4 a5:Nat)(a6:Option Addr)(a7 a8:Nat)(a9:Option Addr)(a10 a11:Nat)(a12 a13:Int)(a14:Option Addr)(a15 a16:Nat)(a17 a18 a19 a20:Int)(a21:Option Addr)(a22 a23:Nat)(a24:Option Addr)(a25 a26:Nat)(a27:Option Addr)(a28 a29:Nat)(a30:Option Addr)(a31 a32:Nat):Obj:=.cells #[.slice a0 a1 a2,.slice a3 a4 a5,.slice a6 a7 a8,.slice a9 a10 a11,.int .i64 a12,.int .i64 a13,.slice a14 a15 a16,.int .i64 a17,.int .i64 a18,.int .i64 a19,.int .i64 a20,.slice a21 a22 a23,.slice a24 a25 a26,.slice a27 a28 a29,.slice a30 a31 a32] 253
abbrev O17(a0:Int)(a1:Option Addr)(a2 a3:Nat)(a4:Option Addr)(a5 a6:Nat):Obj:=.cells #[.int .i64 a0,.slice a1 a2 a3,.slice a4 a5 a6] 266
abbrev O18(a0 a1:Int)(a2:Option Addr)(a3 a4:Nat)(a5 a6 a7 a8:Int)(a9:Option Addr)(a10 a11:Nat)(a12:Option Addr)(a13 a14:Nat)(a15:Option Addr)(a16 a17:Nat):Obj:=.cells #[.int .i64 a0,.int .i64 a1,.slice a2 a3 a4,.int .i64 a5,.int .i64 a6,.int .i64 a7,.int .i64 a8,.slice a9 a10 a11,.slice a12 a13 a14,.slice a15 a16 a17] 133
abbrev O19(a0 a1 a2 a3:Int):Obj:=.cells #[.int .i64 a0,.int .i64 a1,.int .i64 a2,.int .i64 a3] 267
abbrev O20(a0 a1 a2 a3:Int):Obj:=.cells #[.int .i64 a0,.int .i64 a1,.int .i64 a2,.int .i64 a3] 31
abbrev O21(a0:Option Addr)(a1 a2:Nat)(a3:Option Addr)(a4 a5:Nat):Obj:=.cells #[.slice a0 a1 a2,.slice a3 a4 a5] 166
abbrev O22(a0:Option Addr)(a1 a2:Nat)(a3:Option Addr)(a4 a5:Nat)(a6:Option Addr)(a7 a8:Nat)(a9:Option Addr)(a10 a11:Nat)(a12:Int)(a13:Bool):Obj:=.cells #[.slice a0 a1 a2,.slice a3 a4 a5,.slice a6 a7 a8,.slice a9 a10 a11,.int .i64 a12,.bool a13] 320
abbrev O23(a0:Option Addr)(a1 a2:Nat)(a3:Option Addr)(a4 a5:Nat):Obj:=.cells #[.slice a0 a1 a2,.slice a3 a4 a5] 188
abbrev O24(a0:Option Addr)(a1 a2:Nat)(a3:Option Addr)(a4 a5:Nat)(a6:Option Addr)(a7 a8:Nat)(a9:Option Addr)(a10 a11:Nat)(a12 a13:Int)(a14:Option Addr)(a15 a16:Nat)(a17 a18 a19 a20:Int)(a21:Option Addr)(a22 a23:Nat)(a24:Option Addr)(a25 a26:Nat)(a27:Option Addr)(a28 a29:Nat)(a30:Option Addr)(a31 a32:Nat):Obj:=.cells #[.slice a0 a1 a2,.slice a3 a4 a5,.slice a6 a7 a8,.slice a9 a10 a11,.int .i64 a12,.int .i64 a13,.slice a14 a15 a16,.int .i64 a17,.int .i64 a18,.int .i64 a19,.int .i64 a20,.slice a21 a22 a23,.slice a24 a25 a26,.slice a27 a28 a29,.slice a30 a31 a32] 183
abbrev O25(a0:Option Addr)(a1 a2:Nat)(a3:Option Addr)(a4 a5:Nat)(a6 a7:Int)(a8:Option Addr)(a9 a10:Nat)(a11 a12 a13 a14:Int)(a15:Option Addr)(a16 a17:Nat)(a18:Option Addr)(a19 a20:Nat)(a21:Option Addr)(a22 a23:Nat)(a24:Option Addr)(a25 a26:Nat)(a27:Option Addr)(a28 a29:Nat)(a30:Option Addr)(a31 a32:Nat)(a33:Option Addr)(a34 a35:Nat)(a36:Option Addr)(a37 a38:Nat)(a39 a40:Int)(a41:Option Addr)(a42 a43:Nat)(a44 a45 a46 a47:Int)(a48:Option Addr)(a49 a50:Nat)(a51:Option Addr)(a52 a53:Nat)(a54:Option Addr)(a55 a56:Nat)(a57:Option Addr)(a58 a59:Nat):Obj:=.cells #[.slice a0 a1 a2,.slice a3 a4 a5,.int .i64 a6,.int .i64 a7,.slice a8 a9 a10,.int .i64 a11,.int .i64 a12,.int .i64 a13,.int .i64 a14,.slice a15 a16 a17,.slice a18 a19 a20,.slice a21 a22 a23,.slice a24 a25 a26,.slice a27 a28 a29,.slice a30 a31 a32,.slice a33 a34 a35,.slice a36 a37 a38,.int .i64 a39,.int .i64 a40,.slice a41 a42 a43,.int .i64 a44,.int .i64 a45,.int .i64 a46,.int .i64 a47,.slice a48 a49 a50,.slice a51 a52 a53,.slice a54 a55 a56,.slice a57 a58 a59] 212
abbrev O26(a0 a1 a2 a3 a4 a5 a6 a7 a8 a9 a10 a11 a12 a13 a14 a15 a16 a17 a18 a19:Int):Obj:=.cells #[.int .i64 a0,.int .i64 a1,.int .i64 a2,.int .i64 a3,.int .i64 a4,.int .i64 a5,.int .i64 a6,.int .i64 a7,.int .i64 a8,.int .i64 a9,.int .i64 a10,.int .i64 a11,.int .i64 a12,.int .i64 a13,.int .i64 a14,.int .i64 a15,.int .i64 a16,.int .i64 a17,.int .i64 a18,.int .i64 a19] 152
abbrev O27(a0:Int)(a1:Option Addr)(a2 a3:Nat):Obj:=.cells #[.int .i64 a0,.slice a1 a2 a3] 215
abbrev O28(a0:Option Addr)(a1 a2:Nat)(a3:Int):Obj:=.cells #[.slice a0 a1 a2,.int .i64 a3] 148
abbrev O29(a0:Int)(a1:Option Addr)(a2 a3:Nat)(a4 a5 a6:Int):Obj:=.cells #[.int .i64 a0,.slice a1 a2 a3,.int .i64 a4,.int .i64 a5,.int .i64 a6] 37
abbrev O30(a0:Option Addr)(a1 a2:Nat)(a3 a4 a5:Int):Obj:=.cells #[.slice a0 a1 a2,.int .i64 a3,.int .i64 a4,.int .i64 a5] 41
abbrev O31(a0:Option Addr)(a1 a2:Nat):Obj:=.cells #[.slice a0 a1 a2] 97
abbrev O32(a0:Option Addr)(a1 a2:Nat):Obj:=.cells #[.slice a0 a1 a2] 26
abbrev O33(a0 a1:Int):Obj:=.cells #[.int .i64 a0,.int .i64 a1] 240
abbrev O34(a0:Int)(a1:Bool)(a2:Option Addr)(a3 a4:Nat):Obj:=.cells #[.int .i64 a0,.bool a1,.slice a2 a3 a4] 118
abbrev O35(a0 a1:Int)(a2:Option Addr)(a3 a4:Nat)(a5:Option Addr)(a6 a7:Nat):Obj:=.cells #[.int .i64 a0,.int .i64 a1,.slice a2 a3 a4,.slice a5 a6 a7] 171
abbrev O36(a0:Int)(a1:ByteArray)(a2 a3 a4 a5 a6 a7 a8 a9:Int)(a10:Option Addr)(a11 a12:Nat):Obj:=.cells #[.int .i64 a0,.string a1,.int .i64 a2,.int .i64 a3,.int .i64 a4,.int .i64 a5,.int .i64 a6,.int .i64 a7,.int .i64 a8,.int .i64 a9,.slice a10 a11 a12] 99
def QB{w s b:TW}(h:Bl w s)(g:Bl s b):Bl w b:=h.trans (g.mono h.size)
def QC{n:Nat}{w s:TW}{p:Addr}{v:Option Value}(h:Below n w s)(l:p.block<n)(f:w.cell? p=v):s.cell? p=v:=(h.cell l).trans f
def QL{n k:Nat}{w s:TW}(h:Below n w s)(l:k<w.heap.size):k<s.heap.size:=Brs l h.size
def QA{w:TW}{o:Obj}{p:Addr}{v:Option Value}(l:p.block<w.heap.size)(f:w.cell? p=v):(w.alloc o).cell? p=v:=(Bsu _ _ _ l).trans f
def QN{w:TW}(o:Obj):Bl w (w.alloc o):=(Brm _ _).alloc (Bru _) o
def QX:(∀(a:Act)(d:Tmp)(v:TX),a.put (some d) v={a with tmps:=a.tmps.setIfInBounds d v})/\(∀(a:Act)(v:TX),a.put none v=a)/\(∀(l:TV)(i:Nat)(v:TX),l.toArray.setIfInBounds i v=(l.set i v).toArray)/\(∀(x:TX)(l:TV)(v:TX),(x::l).set 0 v=v::l)/\(∀(x:TX)(l:TV)(i:Nat)(v:TX),(x::l).set (i+1) v=x::l.set i v):=⟨fun _ _ _=>rfl,fun _ _=>rfl,fun _ _ _=>Hd,fun _ _ _=>rfl,fun _ _ _ _=>rfl⟩
def Gr (B:Nat)(w w':TW):Prop:=w.grownBy w' (some B)
def Gr.refl(B:Nat)(w:TW):Gr B w w:=⟨rfl,rfl,rfl,Bru _,fun _ _ _=>rfl⟩
def Gr.size{u:Nat}{w s:TW}(h:Gr u w s):w.heap.size<=s.heap.size:=World.grownBy.size h
def Gr.blk{u:Nat}{w s:TW}(h:Gr u w s){k:Nat}(b:k<w.heap.size)(c:k≠u):s.heap[k]?=w.heap[k]? :=
 World.grownBy.block h k b (by simpa using c)
def Gr.trans{u:Nat}{a s c:TW}(h:Gr u a s)(k:Gr u s c):Gr u a c :=
 ⟨(World.grownBy.os k).trans (World.grownBy.os h),(World.grownBy.tape k).trans (World.grownBy.tape h),(World.grownBy.output k).trans (World.grownBy.output h),Br5 h.size k.size,
  fun i e f=>(World.grownBy.block k i (Brs e h.size) f).trans (World.grownBy.block h i e f)⟩
def Gr.grown{u:Nat}{a s c:TW}{f:Option Nat}(h:Gr u a s)(k:s.grownBy c f)(p:∀j,f=some j->a.heap.size<=j\/j=u):Gr u a c :=
 ⟨k.os.trans (World.grownBy.os h),k.tape.trans (World.grownBy.tape h),k.output.trans (World.grownBy.output h),Br5 h.size k.size,
  fun i g l=>(k.block i (Brs g h.size) (fun e=>by rcases p i e.symm with m|m<;>first|omega|(subst m;exact l rfl))).trans (World.grownBy.block h i g l)⟩
def Gr.alloc{u:Nat}{a b:TW}(h:Gr u a b)(o:Obj):Gr u a (b.alloc o) :=
 h.grown (World.grownBy_alloc b o none) Hd
def Gr.drew{u:Nat}{a s:TW}(h:Gr u a s):Gr u a s.drew:=by
 have c:a.grownBy s (some u):=h;exact⟨c.os,c.tape,c.output,c.size,c.block⟩
def Gr.drewN{u:Nat}{a s:TW}(h:Gr u a s)(n:Nat):Gr u a (s.drewN n):=by
 have c:a.grownBy s (some u):=h;exact⟨c.os,c.tape,c.output,c.size,c.block⟩
def Ul(w:TW)(p:Addr)(u:TX):w.grownBy (w.setCell p u) (some p.block) :=
 ⟨rfl,rfl,rfl,by simp[World.setCell],fun k _ b=>Brk _ _ _ _ (by simpa using b)⟩
def Gr.set{u:Nat}{a b:TW}(h:Gr u a b){p:Addr}(f:a.heap.size<=p.block\/p.block=u)(c:TX):Gr u a (b.setCell p c) :=
 h.grown (Ul b p c) (by intro j e;simp at e;subst e;exact f)
def Gr.below{u:Nat}{w s:TW}(h:Gr u w s)(c:w.heap.size<=u):Bl w s :=
 ⟨World.grownBy.os h,World.grownBy.tape h,World.grownBy.output h,h.size,fun k b=>h.blk b Ck⟩
def Gr.of_below{u:Nat}{a s c:TW}(h:Gr u a s)(k:Bl s c):Gr u a c :=
 ⟨k.os.trans (World.grownBy.os h),k.tape.trans (World.grownBy.tape h),k.output.trans (World.grownBy.output h),Br5 h.size k.size,
  fun i e f=>(k.block i (Brs e h.size)).trans (World.grownBy.block h i e f)⟩
def Bt{w:TW}{u i:Nat}{G:Array Value}{j:TypeId}(h:w.heap[u]?=some (.cells G j (0,0)))(c:TX):(w.setCell (.a u i) c).heap[u]?=some (.cells (G.setIfInBounds i c) j (0,0)):=by
 have e:=Sp h;have f:w.heap[u]=.cells G j (0,0):=by simpa[Bu0 e] using h
 show (w.heap.modify u _)[u]?=_;rw[Bu0 (by simpa using e),Array.getElem_modify_self,f];rfl
def Bb{w:TW}{u:Nat}{G:Array Value}{j:TypeId}(h:w.heap[u]?=some (.cells G j (0,0)))(i:Nat):w.cell? (.a u i)=G[i]?:=by simp[World.cell?,h]
def Bk{w:TW}{u:Nat}{G:Array Value}{j:TypeId}(h:w.heap[u]?=some (.cells G j (0,0)))(i:Nat):w.frozen? (.a u i)=false:=by simp[World.frozen?,h]
def cl2{w:TW}{k:Nat}{G:Array Value}{j:TypeId}(h:w.heap[k]?=some (.cells G j (0,0))):w.cell? (.a k 0)=G[0]?/\w.cell? (.a k 1)=G[1]?:=⟨Bb h 0,Bb h 1⟩
def cl3{w:TW}{k:Nat}{G:Array Value}{j:TypeId}(h:w.heap[k]?=some (.cells G j (0,0))):w.cell? (.a k 0)=G[0]?/\w.cell? (.a k 1)=G[1]?/\w.cell? (.a k 2)=G[2]?:=⟨Bb h 0,Bb h 1,Bb h 2⟩
def cl4{w:TW}{k:Nat}{G:Array Value}{j:TypeId}(h:w.heap[k]?=some (.cells G j (0,0))):w.cell? (.a k 0)=G[0]?/\w.cell? (.a k 1)=G[1]?/\w.cell? (.a k 2)=G[2]?/\w.cell? (.a k 3)=G[3]?:=⟨Bb h 0,Bb h 1,Bb h 2,Bb h 3⟩
def cl9{w:TW}{k:Nat}{G:Array Value}{j:TypeId}(h:w.heap[k]?=some (.cells G j (0,0))):w.cell? (.a k 0)=G[0]?/\w.cell? (.a k 1)=G[1]?/\w.cell? (.a k 2)=G[2]?/\w.cell? (.a k 3)=G[3]?/\w.cell? (.a k 4)=G[4]?/\w.cell? (.a k 5)=G[5]?/\w.cell? (.a k 6)=G[6]?/\w.cell? (.a k 7)=G[7]?/\w.cell? (.a k 8)=G[8]?:=⟨Bb h 0,Bb h 1,Bb h 2,Bb h 3,Bb h 4,Bb h 5,Bb h 6,Bb h 7,Bb h 8⟩
def Nj{w:TW}{k:Nat}{G:Array Value}{j:TypeId}(h:w.heap[k]?=some (.cells G j (0,0))):w.cell? (.a k 0)=G[0]?/\w.cell? (.a k 1)=G[1]?/\w.cell? (.a k 2)=G[2]?/\w.cell? (.a k 3)=G[3]?/\w.cell? (.a k 4)=G[4]?/\w.cell? (.a k 5)=G[5]?/\w.cell? (.a k 6)=G[6]?/\w.cell? (.a k 7)=G[7]?/\w.cell? (.a k 8)=G[8]?/\w.cell? (.a k 9)=G[9]?:=⟨Bb h 0,Bb h 1,Bb h 2,Bb h 3,Bb h 4,Bb h 5,Bb h 6,Bb h 7,Bb h 8,Bb h 9⟩
def El{w:TW}{k:Nat}{G:Array Value}{j:TypeId}(h:w.heap[k]?=some (.cells G j (0,0))):w.cell? (.a k 0)=G[0]?/\w.cell? (.a k 1)=G[1]?/\w.cell? (.a k 2)=G[2]?/\w.cell? (.a k 3)=G[3]?/\w.cell? (.a k 4)=G[4]?/\w.cell? (.a k 5)=G[5]?/\w.cell? (.a k 6)=G[6]?/\w.cell? (.a k 7)=G[7]?/\w.cell? (.a k 8)=G[8]?/\w.cell? (.a k 9)=G[9]?/\w.cell? (.a k 10)=G[10]?/\w.cell? (.a k 11)=G[11]?:=⟨Bb h 0,Bb h 1,Bb h 2,Bb h 3,Bb h 4,Bb h 5,Bb h 6,Bb h 7,Bb h 8,Bb h 9,Bb h 10,Bb h 11⟩
def Tk{w:TW}{k:Nat}{G:Array Value}{j:TypeId}(h:w.heap[k]?=some (.cells G j (0,0))):w.cell? (.a k 0)=G[0]?/\w.cell? (.a k 1)=G[1]?/\w.cell? (.a k 2)=G[2]?/\w.cell? (.a k 3)=G[3]?/\w.cell? (.a k 4)=G[4]?/\w.cell? (.a k 5)=G[5]?/\w.cell? (.a k 6)=G[6]?/\w.cell? (.a k 7)=G[7]?/\w.cell? (.a k 8)=G[8]?/\w.cell? (.a k 9)=G[9]?/\w.cell? (.a k 10)=G[10]?/\w.cell? (.a k 11)=G[11]?/\w.cell? (.a k 12)=G[12]?/\w.cell? (.a k 13)=G[13]?/\w.cell? (.a k 14)=G[14]?:=⟨Bb h 0,Bb h 1,Bb h 2,Bb h 3,Bb h 4,Bb h 5,Bb h 6,Bb h 7,Bb h 8,Bb h 9,Bb h 10,Bb h 11,Bb h 12,Bb h 13,Bb h 14⟩
def Bnk{w:TW}{k:Nat}{G:Array Value}{j:TypeId}(h:w.heap[k]?=some (.cells G j (0,0))):w.cell? (.a k 0)=G[0]?/\w.cell? (.a k 1)=G[1]?/\w.cell? (.a k 2)=G[2]?/\w.cell? (.a k 3)=G[3]?/\w.cell? (.a k 4)=G[4]?/\w.cell? (.a k 5)=G[5]?/\w.cell? (.a k 6)=G[6]?/\w.cell? (.a k 7)=G[7]?/\w.cell? (.a k 8)=G[8]?/\w.cell? (.a k 9)=G[9]?/\w.cell? (.a k 10)=G[10]?/\w.cell? (.a k 11)=G[11]?/\w.cell? (.a k 12)=G[12]?/\w.cell? (.a k 13)=G[13]?/\w.cell? (.a k 14)=G[14]?/\w.cell? (.a k 15)=G[15]?/\w.cell? (.a k 16)=G[16]?/\w.cell? (.a k 17)=G[17]?/\w.cell? (.a k 18)=G[18]?/\w.cell? (.a k 19)=G[19]?/\w.cell? (.a k 20)=G[20]?/\w.cell? (.a k 21)=G[21]?/\w.cell? (.a k 22)=G[22]?/\w.cell? (.a k 23)=G[23]?/\w.cell? (.a k 24)=G[24]?/\w.cell? (.a k 25)=G[25]?/\w.cell? (.a k 26)=G[26]?/\w.cell? (.a k 27)=G[27]?:=⟨Bb h 0,Bb h 1,Bb h 2,Bb h 3,Bb h 4,Bb h 5,Bb h 6,Bb h 7,Bb h 8,Bb h 9,Bb h 10,Bb h 11,Bb h 12,Bb h 13,Bb h 14,Bb h 15,Bb h 16,Bb h 17,Bb h 18,Bb h 19,Bb h 20,Bb h 21,Bb h 22,Bb h 23,Bb h 24,Bb h 25,Bb h 26,Bb h 27⟩
def fr2{w:TW}{k:Nat}{G:Array Value}{j:TypeId}(h:w.heap[k]?=some (.cells G j (0,0))):w.frozen? (.a k 0)=false/\w.frozen? (.a k 1)=false:=⟨Bk h 0,Bk h 1⟩
def fr3{w:TW}{k:Nat}{G:Array Value}{j:TypeId}(h:w.heap[k]?=some (.cells G j (0,0))):w.frozen? (.a k 0)=false/\w.frozen? (.a k 1)=false/\w.frozen? (.a k 2)=false:=⟨Bk h 0,Bk h 1,Bk h 2⟩
def fr4{w:TW}{k:Nat}{G:Array Value}{j:TypeId}(h:w.heap[k]?=some (.cells G j (0,0))):w.frozen? (.a k 0)=false/\w.frozen? (.a k 1)=false/\w.frozen? (.a k 2)=false/\w.frozen? (.a k 3)=false:=⟨Bk h 0,Bk h 1,Bk h 2,Bk h 3⟩
def Sd{w:TW}{k:Nat}{G:Array Value}{j:TypeId}(h:w.heap[k]?=some (.cells G j (0,0))):w.frozen? (.a k 0)=false/\w.frozen? (.a k 1)=false/\w.frozen? (.a k 2)=false/\w.frozen? (.a k 3)=false/\w.frozen? (.a k 4)=false/\w.frozen? (.a k 5)=false/\w.frozen? (.a k 6)=false/\w.frozen? (.a k 7)=false/\w.frozen? (.a k 8)=false/\w.frozen? (.a k 9)=false/\w.frozen? (.a k 10)=false/\w.frozen? (.a k 11)=false:=⟨Bk h 0,Bk h 1,Bk h 2,Bk h 3,Bk h 4,Bk h 5,Bk h 6,Bk h 7,Bk h 8,Bk h 9,Bk h 10,Bk h 11⟩
def Be(w:TW)(o:Obj):(w.alloc o).heap[w.heap.size]?=some o:=heap_alloc_new w o
def Eg (w:TW)(B:Nat)(s:ByteArray)(t:Rd.St):Prop :=
 w.heap[B]?=some (O0 s t.pos t.bad)
theorem Eg.cells{w:World}{u:Nat}{s:ByteArray}{t:Rd.St}(h:Eg w u s t):w.cell? ⟨u,0,none⟩=some (.string s)/\w.cell? ⟨u,1,none⟩=some (.int .i64 t.pos)/\w.cell? ⟨u,2,none⟩=some (.bool t.bad)/\w.frozen? ⟨u,0,none⟩=false/\w.frozen? ⟨u,1,none⟩=false/\w.frozen? ⟨u,2,none⟩=false:=by
 unfold Eg at h;simp[World.cell?,World.frozen?,h]
def Eg.lt{w:TW}{u:Nat}{s:ByteArray}{t:Rd.St}(h:Eg w u s t):u<w.heap.size:=Sp h
def Eg.alloc{w:TW}{u:Nat}{s:ByteArray}{t:Rd.St}(h:Eg w u s t)(o:Obj):Eg (w.alloc o) u s t:=by
 unfold Eg;rw[Br2 w o u h.lt];exact h
def Eg.set{w:TW}{u:Nat}{s:ByteArray}{t:Rd.St}(h:Eg w u s t){p:Addr}(c:p.block≠u)(b:TX):Eg (w.setCell p b) u s t:=by
 unfold Eg;rw[Brk _ _ _ _ (fun e=>c e.symm)];exact h
def Eg.grown{w s:TW}{u:Nat}{b:ByteArray}{t:Rd.St}{c:Option Nat}(h:Eg w u b t)(e:w.grownBy s c)(f:some u≠c):Eg s u b t:=by
 unfold Eg;rw[e.block u h.lt f];exact h
def Eg.pos{w:TW}{u:Nat}{s:ByteArray}{t:Rd.St}(h:Eg w u s t)(q:Int)(k:Nat)(b:q=k):Eg (w.setCell (.a u 1) (.i q)) u s ⟨k,t.bad⟩:=by
 unfold Eg at h ⊢;rw[Bt h,b];rfl
def Eg.bad{w:TW}{u:Nat}{s:ByteArray}{t:Rd.St}(h:Eg w u s t)(b:Bool):Eg (w.setCell (.a u 2) (.bool b)) u s ⟨t.pos,b⟩:=by
 unfold Eg at h ⊢;rw[Bt h];rfl
def Eg.drewN{w:TW}{u:Nat}{s:ByteArray}{t:Rd.St}(h:Eg w u s t)(n:Nat):Eg (w.drewN n) u s t:=h
def Gr.own{u:Nat}{w s:TW}{k:Nat}{o:Obj}(h:Gr u w s)(b:w.heap[k]?=some o)(c:k≠u):s.heap[k]?=some o:=by
 rw[h.blk (Sp b) c];exact b
def Zq{u b t n:Nat}{j:TypeId}{l:TX}{e:TV}{w s:TW}(h:w.ownsRow b j t l n e)(c:Gr u w s)(i:u<b):s.ownsRow b j t l n e:=by
 refine h.kept c ?_;cases f:l.ownBlock with
 | none=>exact .inl rfl
 | some k=>have:=h.lt k f;right;intro g;simp at g;omega
def Uu{u b t n:Nat}{j:TypeId}{l:TX}{e:TV}{w:TW}(h:w.ownsRow b j t l n e)(f:u<b):some u≠l.ownBlock:=by
 intro c;have:=h.lt u c.symm;omega
def Uv{u b t n:Nat}{j:TypeId}{l:TX}{e:TV}{w:TW}(h:w.ownsRow b j t l n e):∀c,l.ownBlock=some c->b<=c\/c=u :=
 fun c f=>.inl (h.lt c f).1
def D6{u base' t n:Nat}{j:TypeId}{l:TX}{e:TV}{w:TW}(h:w.ownsRow u j t l n e)(p:base'<=u):w.ownsRow base' j t l n e:=by
 obtain⟨c,f|⟨g,i,m,a,b,r⟩⟩:=h
 ·exact⟨c,.inl f⟩
 exact⟨c,.inr ⟨g,i,m,a,Ck,r⟩⟩
def Bh{u b n:Nat}{j:TypeId}{l:TX}{e:TV}{w:TW}(h:w.ownsRow u j b l n e):∃a c,l=.s a n c:=by
 obtain⟨_,⟨rfl,rfl⟩|⟨g,f,i,rfl,_⟩⟩:=h
 ·exact⟨none,0,rfl⟩
 exact⟨_,_,rfl⟩
def Dh(w:TW)(l:TV)(t:TypeId)(g:Nat)(b:w.heap.size=g):∀(j:Nat) (x:TX),l[j]?=some x->(w.alloc (.cells l.toArray t)).cell? ((⟨g,0,none⟩:Addr).add j)=some x:=by
 intro j x c;have e:(⟨g,0,none⟩:Addr).add j=⟨g,j,none⟩:=by unfold Addr.add;split<;>simp_all
 subst b;rw[e,Bb (Be w (.cells l.toArray t (0,0))) j];simpa using c
def Bc{p:Prop}(h:p):Hid p:=h
def Ba{p:Prop}(h:Hid p):p:=h
def Bfw{k:IntKind}{a B:Int}(h:a=B):Ending.returned (.int k a)=.r (.int k B):=by rw[h]
def Bag(c:UInt8):wrap64 (c.toNat:Int)=(c.toNat:Int):=by
 have:=c.toNat_lt;unfold wrap64;omega
def Bqb{s:ByteArray}{u:Nat}(h:u<s.size):Rd.nx s.data.toList ⟨u,false⟩=((s[u].toNat:Int),⟨u+1,false⟩):=by
 have b:u<s.data.toList.length:=by simpa using h
 have e:s.data.toList[u]?.getD 0=s[u]:=by rw[Brl b];rfl
 unfold Rd.nx;rw[Pk Hd,Pk Mc];simp only[e]
def Uy{s:ByteArray}{u:Nat}(h:¬u<s.size):Rd.nx s.data.toList ⟨u,false⟩=(0,⟨u,true⟩):=by
 have b:s.data.toList.length=s.size:=Hd;unfold Rd.nx;rw[Pk Hd,Th Mc]
def Fw{s:ByteArray}{u:Nat}:Rd.nx s.data.toList ⟨u,true⟩=(0,⟨u,true⟩):=by simp[Rd.nx]
def Hp(s:ByteArray)(B:Nat)(t:Rd.St)(w:TW)(h:s.size<=maxLen)(b:Eg w B s t):Calls prog 204 #[.q B 0] w fun e f=>e=.r (.i (Rd.nx s.data.toList t).1)/\Eg f B s (Rd.nx s.data.toList t).2/\Gr B w f:=by
 unfold maxLen at h;obtain⟨v,j,l,z,A,C⟩:=b.cells;obtain⟨c,m⟩:=t;simp only at j l;cases m
 ·by_cases g:c<s.size;·rw[Bqb g];have p:decide ((c:Int)<0)=false:=Hd;go_in;go_wp2;go_quiet (fail);go_wp2;go_quiet (fail);go_wp2;go_ret;exact⟨Bfw (Bag _),(b.drewN _).pos _ _ Ck,((Gr.refl _ _).drewN _).set (.inr rfl) _⟩
  rw[Uy g];have p:decide ((c:Int)<0)=false:=Hd;have g2:decide (s.size<=c)=true:=Fr;go_in;go_wp2;go_quiet (fail);go_wp2;go_ret;exact⟨rfl,(b.drewN _).bad _,((Gr.refl _ _).drewN _).set (.inr rfl) _⟩
 rw[Fw];go_in;go_wp2;go_quiet (fail);go_wp2;go_ret;exact⟨rfl,(b.drewN _).bad _,((Gr.refl _ _).drewN _).set (.inr rfl) _⟩
def Ae(s:ByteArray)(B:Nat)(b:Int)(t:Rd.St)(w:TW)(h:s.size<=maxLen)(j:Eg w B s t):Calls prog 154 #[.q B 0,.i b] w fun e l=>e=.r (.tuple #[])/\Eg l B s (Rd.ex s.data.toList b t)/\Gr B w l:=by
 unfold Rd.ex;generalize p:Rd.nx s.data.toList t=r;have m:=Bc p;by_cases c:r.1=b
 ·rw[Th c];have v:(r.1 != b)=false:=by simp[c]
  have z:=Bc c;go_in;go_wp2_with (go_at_call 204;refine(Hp s B t _ h j).mono ?_;rw[Ba m];rintro e A ⟨rfl,f,g⟩)
  go_end0;exact⟨rfl,f,g⟩
 rw[Pk c];have v:(r.1 != b)=true:=by simp[c]
 have z:=Bc c;go_in;go_wp2_with (go_at_call 204;refine(Hp s B t _ h j).mono ?_;rw[Ba m];rintro e A ⟨rfl,f,g⟩;obtain⟨C,D,F,G,I,J⟩:=f.cells)
 go_end0;exact⟨rfl,f.bad _,g.set (.inr rfl) _⟩
def Kc(s:ByteArray)(B:Nat)(f g:Int)(t:Rd.St)(w:TW)(h:s.size<=maxLen)(j:Eg w B s t):Calls prog 155 #[.q B 0,.i f,.i g] w fun e m=>e=.r (.i (Rd.cn s.data.toList f g t).1)/\Eg m B s (Rd.cn s.data.toList f g t).2/\Gr B w m:=by
 unfold Rd.cn;generalize A:Rd.nx s.data.toList t=r;have l:=Bc A;by_cases p:r.1<f
 ·rw[Th p];go_in;go_wp2_with (go_at_call 204;refine(Hp s B t _ h j).mono ?_;rw[Ba l];rintro e v ⟨rfl,b,c⟩;obtain⟨C,D,F,G,I,J⟩:=b.cells)
  go_ret;exact⟨rfl,b.bad _,c.set (.inr rfl) _⟩
 rw[Pk p];by_cases z:g<r.1
 ·rw[Th z];go_in;go_wp2_with (go_at_call 204;refine(Hp s B t _ h j).mono ?_;rw[Ba l];rintro e v ⟨rfl,b,c⟩;obtain⟨C,D,F,G,I,J⟩:=b.cells)
  go_ret;exact⟨rfl,b.bad _,c.set (.inr rfl) _⟩
 rw[Pk z];go_in;go_wp2_with (go_at_call 204;refine(Hp s B t _ h j).mono ?_;rw[Ba l];rintro e v ⟨rfl,b,c⟩)
 go_ret;exact⟨rfl,b,c⟩
def Xu(s:ByteArray)(B:Nat)(t:Rd.St)(w:TW)(c:s.size<=maxLen)(f:Eg w B s t):Calls prog 206 #[.q B 0] w fun e g=>e=.r (.agg #[.i (Rd.ty s.data.toList t).1.1,.i (Rd.ty s.data.toList t).1.2])/\Eg g B s (Rd.ty s.data.toList t).2/\Gr B w g:=by
 unfold Rd.ty;have J:=f.lt;generalize z:Rd.nx s.data.toList t=b;generalize A:Rd.nx s.data.toList b.2=C;have D:=Bc z;have F:=Bc A;go_in;go_wp2_with fail;refine(Hp s B t _ c (f.alloc _)).mono ?_;rw[Ba D];rintro e K ⟨rfl,G,h⟩;go_wp2_with fail;refine(Hp s B b.2 _ c G).mono ?_;rw[Ba F];rintro e L ⟨rfl,I,j⟩;have l:=j.own (h.own (Be w _) Ck) Ck;obtain⟨m,p⟩:=cl2 l;obtain⟨N,O⟩:=fr2 l;simp only[Buq,Btt,Bsn]at m p;go_wp2_with fail;refine Wf (v:=.agg #[.i b.1,.i C.1]) (by simp[results,results206,go_sem,m,p]) rfl ⟨rfl,(I.set Fr _).set Fr _,?_⟩;exact((((Gr.refl _ _).alloc _).trans (h.trans j)).set (.inl Hd) _).set (.inl Hd) _
def Tryz.infoType:(prog.info? 31).map (fun i=>(i.zero,i.size,i.bytes))=some (some (.agg #[.i 0,.i 0]),2,16):=Lt
def Bp (l:TP):List Value:=l.flatMap fun x=>[.int .i64 x.1,.int .i64 x.2]
def Uf(l:TP)(x:Int×Int):Bp (l++[x])=Bp l++[.i x.1,.i x.2]:=by simp[Bp]
def Tw(s:ByteArray)(B:Nat)(n:Int)(t:Rd.St)(w:TW)(G:s.size<=maxLen)(a2:0<=n)(a3:n<=255)(h:Eg w B s t):Calls prog 205 #[.q B 0,.i n] w fun e b => ∃v,e=.returned v/\b.ownsRow w.heap.size 31 2 v n.toNat (Bp (Rd.tys s.data.toList n.toNat t).1)/\Eg b B s (Rd.tys s.data.toList n.toNat t).2/\Gr B w b:=by
 have j:=h.lt;obtain⟨I,J,K,L,N⟩:=Bsa Tryz.infoType;unfold Rd.tys;go_in;go_wp2
 go_loopw [5,6] (fun v i wr=>∃k:Nat,(k:Int)<=n/\i=.i k/\wr.ownsRow w.heap.size 31 2 v k (Bp (Rd.rep (Rd.ty s.data.toList) k t).1)/\Eg wr B s (Rd.rep (Rd.ty s.data.toList) k t).2/\Gr B w wr)
  (fun _ i _=>n.toNat-(intOf i).toNat)
 case atStart=>exact⟨0,Ck,rfl,Brw _ _ _ _,h,Gr.refl _ _⟩
 case round=>
  obtain⟨k,hk,rfl,l,m,c⟩:=hrel;have a4:=c.size;by_cases a5:(k:Int)<n
  ·generalize O:Rd.rep (Rd.ty s.data.toList) k t=p at *;generalize Q:Rd.ty s.data.toList p.2=q at *;have V:=Bc O;have z:=Bc Q;go_wp2_with fail;refine(Xu s B p.2 _ G m).mono ?_;rw[Ba z];rintro e Y ⟨rfl,Z,f⟩;have a6:=f.size;have g:=Zq l f j;go_wp2_with (at_builtin;refine Br3 _ rfl _ _ 105 rfl w.heap.size 31 I _ 2 16 Bsk J K L N rfl Fm _ _ _ rfl ((g.alloc _).alloc _) ⟨Y.heap.size+1,0,none⟩ 1 1 [.i q.1.1,.i q.1.2] rfl rfl ?c1 ?c2 ?c3 ?c4 ?c5 ?_)
   case c1=>exact Dh _ _ _ _ Hd
   case c2=>intro u A;simp at A;rcases A with rfl|rfl<;>rfl
   case c3=>unfold maxLen;omega
   case c4=>omega
   case c5=>simp;omega
   intro v' w2 C D _;have a0:=((Z.alloc _).alloc _).grown D (Uu g j);have a1:=(((c.trans f).alloc _).alloc _).grown D (Uv g);have e1:(Rd.rep (Rd.ty s.data.toList) (k+1) t)=(p.1++[q.1],q.2):=by simp only[Rd.rep,Ba V,Ba z]
   rw[<- Uf]at C;have F:=Bc e1;go_wp2;go_roundw
   case rel=>exact⟨k+1,Ck,Mg,by rw[Ba F];exact C,by rw[Ba F];exact a0,a1⟩
   case measure=>simp[intOf];omega
  have e:k=n.toNat:=Ck;subst e;go_wp2;go_ret;exact⟨_,rfl,l,m,c⟩
def Kp (e:Option TypeId)(b:Nat)(w w':TW):Prop :=
 ∀k cs t,b<=k->w.heap[k]?=some (.cells cs t (0,0))->some t≠e->w'.heap[k]?=some (.cells cs t (0,0))
def Kp.of_gr{e:Option TypeId}{u b:Nat}{w s:TW}(h:Gr u w s)(f:u<b):Kp e b w s:=by
 intro k g t i c _;rw[h.blk (Sp c) Ck];exact c
def Kp.of_below{e:Option TypeId}{u:Nat}{w s:TW}(h:Bl w s):Kp e u w s:=by
 intro k f t _ c _;rw[h.block k (Sp c)];exact c
def Kp.of_grown{j:TypeId}{b p t n:Nat}{l:TX}{e:TV}{w s:TW}(q:w.grownBy s l.ownBlock)(h:w.ownsRow p j t l n e):Kp (some j) b w s:=by
 intro k A c _ f z;rw[q.block k (Sp f) ?_];exact f;intro i;obtain⟨B,⟨rfl,_⟩|⟨g,C,D,rfl,_,m,_⟩⟩:=h
 ·simp[Value.ownBlock]at i
 simp[Value.ownBlock]at i;subst i;rw[f]at m;simp at m;exact z (by rw[m.2])
def Kp.trans{L:Option TypeId}{u:Nat}{w s c:TW}(h:Kp L u w s)(k:Kp L u s c):Kp L u w c :=
 fun i f t g l j=>k i f t g (h i f t g l j) j
def Kp.alloc{e:Option TypeId}{b:Nat}(w:TW)(o:Obj):Kp e b w (w.alloc o):=by
 intro k f t _ c _;rw[Br2 w o k (Sp c)];exact c
def Kp.set{j:TypeId}{b i:Nat}{w:TW}{t:Nat}{G:Array Value}(h:w.heap[t]?=some (.cells G j (0,0)))(u:TX):Kp (some j) b w (w.setCell (.a t i) u):=by
 intro k p c _ f m;rw[Brk _ _ _ _ ?_];exact f;intro l;simp only at l;subst l;rw[f]at h;simp at h;exact m (by rw[h.2])
def Dc{e:Option TypeId}{u b n:Nat}{j:TypeId}{l:TX}{f:TV}{w s:TW}(h:w.ownsRow u j b l n f)(p:Kp e u w s)(q:some j≠e):s.ownsRow u j b l n f:=by
 obtain⟨i,z|⟨g,A,m,a,c,d,r⟩⟩:=h
 ·exact⟨i,.inl z⟩
 exact⟨i,.inr ⟨g,A,m,a,c,p g m j c d q,r⟩⟩
def Cq (w:TW)(b:Nat)(v:TX)(l:TP):Prop:=w.ownsRow b 31 2 v l.length (Bp l)
def Cq.kp{e:Option TypeId}{u:Nat}{l:TX}{q:TP}{w s:TW}(h:Cq w u l q)(c:Kp e u w s)(f:some 31≠e):Cq s u l q:=Dc h c f
def Cq.mono{u b':Nat}{l:TX}{q:TP}{w:TW}(h:Cq w u l q)(c:b'<=u):Cq w b' l q:=D6 h c
def De (w:TW)(b:Nat)(v:TX)(l:TI):Prop:=w.ownsRow b 3 1 v l.length (l.map (Value.int .i64))
def De.kp{e:Option TypeId}{u:Nat}{l:TX}{z:TI}{w s:TW}(h:De w u l z)(c:Kp e u w s)(f:some 3≠e):De s u l z:=Dc h c f
def De.mono{u b':Nat}{l:TX}{z:TI}{w:TW}(h:De w u l z)(c:b'<=u):De w b' l z:=D6 h c
def Ev (l:List Rd.Hnd):List Value:=l.flatMap fun x=>[.int .i64 x.frm,.int .i64 x.til,.int .i64 x.target,.int .i64 x.cl]
def X7(l:List Rd.Hnd)(x:Rd.Hnd):Ev (l++[x])=Ev l++[.i x.frm,.i x.til,.i x.target,.i x.cl]:=by simp[Ev]
def K8 (w:TW)(b:Nat)(v:TX)(l:List Rd.Hnd):Prop:=w.ownsRow b 267 4 v l.length (Ev l)
def K8.kp{e:Option TypeId}{u:Nat}{l:TX}{c:List Rd.Hnd}{w s:TW}(h:K8 w u l c)(f:Kp e u w s)(g:some 267≠e):K8 s u l c:=Dc h f g
def K8.mono{u b':Nat}{l:TX}{c:List Rd.Hnd}{w:TW}(h:K8 w u l c)(e:b'<=u):K8 w b' l c:=D6 h e
def Jt (l:List (Rd.Cls × Value)):List Value:=l.flatMap fun x=>[.int .i64 x.1.above,x.2]
def Yf(l:List (Rd.Cls×Value))(x:Rd.Cls×Value):Jt (l++[x])=Jt l++[.i x.1.above,x.2]:=by simp[Jt]
def Fh (w:TW)(b:Nat)(v:TX)(l:List (Rd.Cls × Value)):Prop :=
 w.ownsRow b 139 2 v l.length (Jt l)/\∀p∈l,Cq w b p.2 p.1.fields
def Fh.kp{u:Nat}{l:TX}{Q:List (Rd.Cls×Value)}{w s:TW}(h:Fh w u l Q){e:Option TypeId}(c:Kp e u w s)(f:some 139≠e)(g:some 31≠e):Fh s u l Q :=
 ⟨Dc h.1 c f,fun p i=>(h.2 p i).kp c g⟩
def Fh.mono{u b':Nat}{l:TX}{Q:List (Rd.Cls×Value)}{w:TW}(h:Fh w u l Q)(c:b'<=u):Fh w b' l Q:=⟨D6 h.1 c,fun p e=>(h.2 p e).mono c⟩
def Bli (w:TW)(b:Nat)(v:TX)(cs:List Rd.Cls):Prop:=∃l,l.map Prod.fst=cs/\Fh w b v l
def Rt (l:List (Rd.Mp × Value × Value)):List Value:=l.flatMap fun x=>[.int .i64 x.1.place,x.2.1,x.2.2]
def Xx(l:List (Rd.Mp×Value×Value))(x:Rd.Mp×Value×Value):Rt (l++[x])=Rt l++[.i x.1.place,x.2.1,x.2.2]:=by simp[Rt]
def Mf (w:TW)(b:Nat)(v:TX)(l:List (Rd.Mp × Value × Value)):Prop :=
 w.ownsRow b 266 3 v l.length (Rt l)/\∀p∈l,Cq w b p.2.1 p.1.locals/\Cq w b p.2.2 p.1.stack
def Mf.kp{u:Nat}{l:TX}{c:List (Rd.Mp×Value×Value)}{w s:TW}(h:Mf w u l c){e:Option TypeId}(f:Kp e u w s)(j:some 266≠e)(g:some 31≠e):Mf s u l c :=
 ⟨Dc h.1 f j,fun p i=>⟨(h.2 p i).1.kp f g,(h.2 p i).2.kp f g⟩⟩
def Mf.mono{u b':Nat}{l:TX}{c:List (Rd.Mp×Value×Value)}{w:TW}(h:Mf w u l c)(e:b'<=u):Mf w b' l c:=⟨D6 h.1 e,fun p f=>⟨(h.2 p f).1.mono e,(h.2 p f).2.mono e⟩⟩
def Bn6 (w:TW)(b:Nat)(v:TX)(ms:List Rd.Mp):Prop:=∃l,l.map Prod.fst=ms/\Mf w b v l
structure Ex where
 params:Value
 code:Value
 handlers:Value
 maps:Value
def Mb (m:Rd.Mth)(u:Ex):List Value :=
 [.int .i64 m.cl,.int .i64 m.name,u.params,.int .i64 m.result.1,.int .i64 m.result.2,.int .i64 m.locals,.int .i64 m.stack,u.code,u.handlers,u.maps]
def Ud (w:TW)(b:Nat)(m:Rd.Mth)(u:Ex):Prop :=
 Cq w b u.params m.params/\De w b u.code m.code/\K8 w b u.handlers m.handlers/\Bn6 w b u.maps m.maps
def Ud.kp{u:Nat}{K:Rd.Mth}{g:Ex}{w s:TW}(h:Ud w u K g){e:Option TypeId}(i:Kp e u w s)(j:some 31≠e)(p:some 3≠e)(q:some 267≠e)(t:some 266≠e):Ud s u K g:=by
 obtain⟨a,c,d,l,v,f⟩:=h;exact⟨a.kp i j,c.kp i p,d.kp i q,l,v,f.kp i t j⟩
def Ud.mono{u b':Nat}{K:Rd.Mth}{e:Ex}{w:TW}(h:Ud w u K e)(g:b'<=u):Ud w b' K e:=by
 obtain⟨a,c,d,l,i,f⟩:=h;exact⟨a.mono g,c.mono g,d.mono g,l,i,f.mono g⟩
def Lj (l:List (Rd.Mth × Ex)):List Value:=l.flatMap fun x=>Mb x.1 x.2
def Bdh(l:List (Rd.Mth×Ex))(x:Rd.Mth×Ex):Lj (l++[x])=Lj l++Mb x.1 x.2:=by simp[Lj]
def Eb (w:TW)(b:Nat)(v:TX)(l:List (Rd.Mth × Ex)):Prop :=
 w.ownsRow b 133 10 v l.length (Lj l)/\∀p∈l,Ud w b p.1 p.2
def Eb.kp{u:Nat}{l:TX}{T:List (Rd.Mth×Ex)}{w s:TW}(h:Eb w u l T){e:Option TypeId}(c:Kp e u w s)(f:some 133≠e)(g:some 31≠e)(i:some 3≠e)(j:some 267≠e)(m:some 266≠e):Eb s u l T :=
 ⟨Dc h.1 c f,fun p q=>(h.2 p q).kp c g i j m⟩
def Eb.mono{u b':Nat}{l:TX}{T:List (Rd.Mth×Ex)}{w:TW}(h:Eb w u l T)(c:b'<=u):Eb w b' l T:=⟨D6 h.1 c,fun p e=>(h.2 p e).mono c⟩
def Blg (w:TW)(b:Nat)(v:TX)(ms:List Rd.Mth):Prop:=∃l,l.map Prod.fst=ms/\Eb w b v l
def Bx(w:TW)(o b:Obj):((w.alloc o).alloc b).heap[w.heap.size+1]?=some b:=by
 have:=Be (w.alloc o) b;simpa using this
def Cb(w:TW)(o b:Obj):((w.alloc o).alloc b).heap[w.heap.size]?=some o:=by
 rw[Br2 _ _ _ Hd];exact Be w o
def Kp.set_lo{e:Option TypeId}{b g i:Nat}{w:TW}(f:g<b)(u:TX):Kp e b w (w.setCell (.a g i) u):=by
 intro k h t j c _;rw[Brk _ _ _ _ Fr];exact c
def Uq(s:TB)(n:Nat)(t:Rd.St):(Rd.tys s n t).1.length=n:=Rd.rep_len _ _ _
def Bk1(s:ByteArray)(B:Nat)(t:Rd.St)(w:TW)(h:s.size<=maxLen)(C:Eg w B s t):Calls prog 156 #[.q B 0] w fun e j => ∃v,e=.r (.agg #[.i (Rd.cls s.data.toList t).1.above,v])/\Cq j w.heap.size v (Rd.cls s.data.toList t).1.fields/\Eg j B s (Rd.cls s.data.toList t).2/\Gr B w j:=by
 have a7:=C.lt;unfold Rd.cls;dsimp only;generalize L:Rd.nx s.data.toList t=b;generalize D:Rd.cn s.data.toList 0 4 b.2=l;have F:=Rd.cn_bd s.data.toList 0 4 b.2 Ck;rw[D]at F;obtain⟨N,a8⟩:=F;have O:=Bc L;have Q:=Bc D;go_in;go_wp2_with fail;refine(Hp s B t _ h ((C.alloc _).alloc _)).mono ?_;rw[Ba O];rintro e V ⟨rfl,Y,c⟩;have Z:=(((Gr.refl B w).alloc _).alloc _).trans c;have m:=c.own (Bx w _ _) Ck;have hc:=c.own (Cb w _ _) Ck;have p:=Bb m 0;have f0:=Bk m 0;simp only[Buq,Btt]at p;go_wp2_with fail;refine(Kc s B 0 4 b.2 _ h (Y.set Fr _)).mono ?_;rw[Ba Q];rintro e w2 ⟨rfl,a0,f⟩;have G:=(Z.set (.inl Hd) _).trans f;have a1:=f.own (Bt m _) Ck;have a2:=f.own ((Brk V ⟨w.heap.size+1,0,none⟩ (.i b.1) w.heap.size Hd).trans hc) Ck;have a3:=c.size;have a4:=f.size;simp at a3 a4;go_wp2_with fail;refine(Tw s B l.1 l.2 _ h N Ck a0).mono ?_;rintro e w3 ⟨v,rfl,I,a5,z⟩;obtain⟨va,vc,rfl⟩:=Bh I;have a6:=G.size;have A:=z.own a1 Ck;have g:=z.own a2 Ck;have k1:=Bb A 1;have f1:=Bk A 1;have p:=Bb A 0;have J:=Bb g 0;have f2:=Bk g 0;have K:=Bb g 1;have f3:=Bk g 1;simp at p k1 J K;go_wp2_with fail;refine tb (.agg #[.i b.1,.s va l.1.toNat vc]) (by simp[results,results156,go_sem,J,K]) ?_;refine⟨_,rfl,?_,((a5.set Fr _).set Fr _).set Fr _,(((G.trans z).set (.inl Hd) _).set (.inl Hd) _).set (.inl Hd) _⟩;unfold Cq;rw[Uq];exact D6 (Bt9 (Bt9 (Bt9 I Fr _) Fr _) Fr _) a6
def Tryz.infoInt:(prog.info? 3).map (fun i=>(i.zero,i.size,i.bytes))=some (some (.i 0),1,8):=Lt
def Tryz.infoHandler:(prog.info? 267).map (fun i=>(i.zero,i.size,i.bytes))=some (some (.agg #[.i 0,.i 0,.i 0,.i 0]),4,32):=Lt
def Bni(s:ByteArray)(B:Nat)(t:Rd.St)(w:TW)(h:s.size<=maxLen)(j:Eg w B s t):Calls prog 207 #[.q B 0] w fun e b => ∃v,e=.returned v/\De b w.heap.size v (Rd.codes s.data.toList t).1/\Eg b B s (Rd.codes s.data.toList t).2/\Gr B w b:=by
 have l:=j.lt;obtain⟨K,L,N,O,Q⟩:=Bsa Tryz.infoInt;unfold Rd.codes De;dsimp only;rw[Rd.rep_len];generalize m:Rd.cn s.data.toList 1 120 t=r;have z:=Rd.cn_bd s.data.toList 1 120 t Ck;rw[m]at z;obtain⟨a5,a6⟩:=z;have H:=Bc m;go_in;go_wp2_with fail;refine(Kc s B 1 120 t _ h j).mono ?_;rw[Ba H];rintro e w0 ⟨rfl,V,A⟩;have a7:=A.size;go_wp2
 go_loopw [3,5] (fun v i wr=>∃k:Nat,(k:Int)<=r.1/\i=.i k/\wr.ownsRow w.heap.size 3 1 v k ((Rd.rep (Rd.nx s.data.toList) k r.2).1.map (Value.int .i64))/\Eg wr B s (Rd.rep (Rd.nx s.data.toList) k r.2).2/\Gr B w wr)
  (fun _ i _=>r.1.toNat-(intOf i).toNat)
 case atStart=>exact⟨0,Ck,rfl,Brw _ _ _ _,V,A⟩
 case round=>
  obtain⟨k,hk,rfl,C,D,c⟩:=hrel;have a8:=c.size;by_cases a9:(k:Int)<r.1
  ·generalize Y:Rd.rep (Rd.nx s.data.toList) k r.2=p at *;generalize Z:Rd.nx s.data.toList p.2=q at *;have HP:=Bc Y;have F:=Bc Z;go_wp2_with fail;refine(Hp s B p.2 _ h D).mono ?_;rw[Ba F];rintro e w1 ⟨rfl,a0,f⟩;have b0:=f.size;have g:=Zq C f l;go_wp2_with (at_builtin;refine Br3 _ rfl _ _ 26 rfl w.heap.size 3 K _ 1 8 Bta L N O Q rfl Fm _ _ _ rfl (g.alloc _) ⟨w1.heap.size,0,none⟩ 1 1 [.i q.1] rfl rfl ?c1 ?c2 ?c3 ?c4 ?c5 ?_)
   case c1=>exact Dh _ _ _ _ rfl
   case c2=>intro u G;simp at G;subst G;rfl
   case c3=>unfold maxLen;omega
   case c4=>omega
   case c5=>simp;omega
   intro v' w2 a1 I _;have a2:=(a0.alloc _).grown I (Uu g l);have a3:=((c.trans f).alloc _).grown I (Uv g);have e1:(Rd.rep (Rd.nx s.data.toList) (k+1) r.2)=(p.1++[q.1],q.2):=by simp only[Rd.rep,Ba HP,Ba F]
   have a4:w2.ownsRow w.heap.size 3 1 v' (k+1) ((p.1++[q.1]).map (Value.int .i64)):=by simpa using a1
   have J:=Bc e1;go_wp2;go_roundw
   case rel=>exact⟨k+1,Ck,Mg,by rw[Ba J];exact a4,by rw[Ba J];exact a2,a3⟩
   case measure=>simp[intOf];omega
  have e:k=r.1.toNat:=Ck;subst e;go_wp2;go_ret;exact⟨_,rfl,C,D,c⟩
def Bd0(s:ByteArray)(B:Nat)(t:Rd.St)(w:TW)(h:s.size<=maxLen)(J:Eg w B s t):Calls prog 208 #[.q B 0] w fun e z => ∃v,e=.returned v/\K8 z w.heap.size v (Rd.hnds s.data.toList t).1/\Eg z B s (Rd.hnds s.data.toList t).2/\Gr B w z:=by
 have K:=J.lt;obtain⟨i0,hi,a7,a8,a9⟩:=Bsa Tryz.infoHandler;unfold Rd.hnds K8;dsimp only;rw[Rd.rep_len];generalize L:Rd.cn s.data.toList 0 4 t=r;have N:=Rd.cn_bd s.data.toList 0 4 t Ck;rw[L]at N;obtain⟨d5,d6⟩:=N;have H:=Bc L;go_in;go_wp2_with fail;refine(Kc s B 0 4 t _ h J).mono ?_;rw[Ba H];rintro e w0 ⟨rfl,b0,O⟩;have d7:=O.size;go_wp2
 go_loopw [3,5] (fun v i wr=>∃k:Nat,(k:Int)<=r.1/\i=.i k/\wr.ownsRow w.heap.size 267 4 v k (Ev (Rd.rep (Rd.hnd s.data.toList) k r.2).1)/\Eg wr B s (Rd.rep (Rd.hnd s.data.toList) k r.2).2/\Gr B w wr)
  (fun _ i _=>r.1.toNat-(intOf i).toNat)
 case atStart=>exact⟨0,Ck,rfl,Brw _ _ _ _,b0,O⟩
 case round=>
  obtain⟨k,hk,rfl,Q,V,A⟩:=hrel;have d8:=A.size;by_cases d9:(k:Int)<r.1
  ·generalize hp:Rd.rep (Rd.hnd s.data.toList) k r.2=p at *;generalize Y:Rd.nx s.data.toList p.2=c;generalize Z:Rd.nx s.data.toList c.2=f;generalize a0:Rd.nx s.data.toList f.2=g;generalize a1:Rd.nx s.data.toList g.2=b;have HQ:Hid (Rd.hnd s.data.toList p.2=(⟨c.1,f.1,g.1,b.1⟩,b.2)):=by
    unfold Hid Rd.hnd;simp only[Y,Z,a0,a1]
   have HP:=Bc hp;have b1:=Bc Y;have b2:=Bc Z;have b3:=Bc a0;have b4:=Bc a1;have j:wr.heap.size≠B:=Ck;go_wp2_with fail;refine(Hp s B p.2 _ h (V.alloc _)).mono ?_;rw[Ba b1];rintro e w1 ⟨rfl,b5,a2⟩;have b6:=((Gr.refl B wr).alloc _).trans a2;have C:=a2.own (Be wr _) j;have D:=Bb C 0;have f0:=Bk C 0;simp at D;go_wp2_with fail;refine(Hp s B c.2 _ h (b5.set Fr _)).mono ?_;rw[Ba b2];rintro e w2 ⟨rfl,b7,a3⟩;have b8:=(b6.set (.inl Hd) _).trans a3;have l:=a3.own (Bt C _) j;simp at l;have c1:=Bb l 1;have f1:=Bk l 1;simp at c1;go_wp2_with fail;refine(Hp s B f.2 _ h (b7.set Fr _)).mono ?_;rw[Ba b3];rintro e w3 ⟨rfl,b9,a4⟩;have c6:=(b8.set (.inl Hd) _).trans a4;have m:=a4.own (Bt l _) j;simp at m;have c2:=Bb m 2;have f2:=Bk m 2;simp at c2;go_wp2_with fail;refine(Hp s B g.2 _ h (b9.set Fr _)).mono ?_;rw[Ba b4];rintro e w4 ⟨rfl,c7,a5⟩;have c8:=(c6.set (.inl Hd) _).trans a5;have F:=a5.own (Bt m _) j;simp at F;obtain⟨D,c1,c2,c3⟩:=cl4 F;have f3:=Bk F 3;simp at D c1 c2 c3;have G:=c8.set (p:=.a wr.heap.size 3) (.inl Hd) (.i b.1);have I:=Zq Q G K;have c9:=c7.set (p:=.a wr.heap.size 3) Fr (.i b.1);have d0:=G.size;go_wp2_with (at_builtin;refine Br3 _ rfl _ _ 130 rfl w.heap.size 267 i0 _ 4 32 underlying130 hi a7 a8 a9 rfl Fm _ _ _ rfl (I.alloc _) ⟨w4.heap.size,0,none⟩ 1 1 [.i c.1,.i f.1,.i g.1,.i b.1] rfl rfl ?c1 ?c2 ?c3 ?c4 ?c5 ?_)
   case c1=>exact Dh _ _ _ _ Hd
   case c2=>intro u hu;simp at hu;rcases hu with rfl|rfl|rfl|rfl<;>rfl
   case c3=>unfold maxLen;omega
   case c4=>omega
   case c5=>simp at d0 ⊢;omega
   intro v' w5 d1 a6 _;have d2:=(c9.alloc _).grown a6 (Uu I K);have d3:=((A.trans G).alloc _).grown a6 (Uv I);have e1:(Rd.rep (Rd.hnd s.data.toList) (k+1) r.2)=(p.1++[⟨c.1,f.1,g.1,b.1⟩],b.2):=by simp only[Rd.rep,Ba HP,Ba HQ]
   have d4:w5.ownsRow w.heap.size 267 4 v' (k+1) (Ev (p.1++[⟨c.1,f.1,g.1,b.1⟩])):=by rw[X7];exact d1
   have HE:=Bc e1;go_wp2;go_roundw
   case rel=>exact⟨k+1,Ck,Mg,by rw[Ba HE];exact d4,by rw[Ba HE];exact d2,d3⟩
   case measure=>simp[intOf];omega
  have e:k=r.1.toNat:=Ck;subst e;go_wp2;go_ret;exact⟨_,rfl,Q,V,A⟩
def Tryz.infoMap:(prog.info? 266).map (fun i=>(i.zero,i.size,i.bytes))=some (some (.agg #[.i 0,.s none 0 0,.s none 0 0]),3,56):=Lt
def Bmw(s:ByteArray)(B:Nat)(L H:Int)(t:Rd.St)(w:TW)(G:s.size<=maxLen)(f4:0<=L)(h2:L<=8)(f5:0<=H)(h3:H<=8)(hR:Eg w B s t):Calls prog 209 #[.q B 0,.i L,.i H] w fun e w' => ∃v l,e=.returned v/\l.map Prod.fst=(Rd.mps s.data.toList L H t).1/\Mf w' w.heap.size v l/\Eg w' B s (Rd.mps s.data.toList L H t).2/\Gr B w w':=by
 have m:=hR.lt;obtain⟨i0,hi,f6,f7,f8⟩:=Bsa Tryz.infoMap;unfold Rd.mps;dsimp only;generalize hr:Rd.cn s.data.toList 0 64 t=r;have b4:=Rd.cn_bd s.data.toList 0 64 t Ck;rw[hr]at b4;obtain⟨h4,h5⟩:=b4;have HR:=Bc hr;clear hr;go_in;go_wp2_with fail;refine(Kc s B 0 64 t _ G hR).mono ?_;rw[Ba HR];rintro e w0 ⟨rfl,f9,b5⟩;have h6:=b5.size;go_wp2
 go_loopw [7,9] (fun v i wr=>∃(k:Nat) (l:List (Rd.Mp×Value×Value)),(k:Int)<=r.1/\i=.i k/\l.length=k/\l.map Prod.fst=(Rd.rep (Rd.mp s.data.toList L H) k r.2).1/\Mf wr w.heap.size v l/\Eg wr B s (Rd.rep (Rd.mp s.data.toList L H) k r.2).2/\Gr B w wr)
  (fun _ i _=>r.1.toNat-(intOf i).toNat)
 case atStart=>exact⟨0,[],Ck,rfl,rfl,rfl,⟨Brw _ _ _ _,Hd⟩,f9,b5⟩
 case round=>
  obtain⟨k,l,hk,rfl,b6,a5,I,a6,N⟩:=hrel;have h7:=N.size;by_cases h8:(k:Int)<r.1
  ·generalize c:Rd.rep (Rd.mp s.data.toList L H) k r.2=p at *;generalize a7:Rd.nx s.data.toList p.2=z;generalize O:Rd.tys s.data.toList L.toNat z.2=h;generalize Q:Rd.cn s.data.toList 0 H h.2=f;generalize V:Rd.tys s.data.toList f.1.toNat f.2=j;have l2:h.1.length=L.toNat:=by rw[<- O];exact Uq _ _ _
   have l4:j.1.length=f.1.toNat:=by rw[<- V];exact Uq _ _ _
   have b7:=Rd.cn_bd s.data.toList 0 H h.2 f5;rw[Q]at b7;obtain⟨g0,h9⟩:=b7;have HQ:Hid (Rd.mp s.data.toList L H p.2=(⟨z.1,h.1,j.1⟩,j.2)):=by
    unfold Hid Rd.mp;simp only[a7,O,Q,V]
   have HP:=Bc c;have g1:=Bc a7;have g2:=Bc O;have g3:=Bc Q;have g4:=Bc V;have g5:=Bc l2;have g6:=Bc l4;have a8:=Bc b6;have g7:=Bc a5;clear c a7 O Q V l2 l4 b6 a5;have Y:wr.heap.size≠B:=Ck;go_wp2_with fail;refine(Hp s B p.2 _ G (a6.alloc _)).mono ?_;rw[Ba g1];rintro e w1 ⟨rfl,b8,Z⟩;have b9:=((Gr.refl B wr).alloc _).trans Z;have a0:=Z.own (Be wr _) Y;have s1:=Z.size;simp at s1;have J:=Bb a0 0;have f0:=Bk a0 0;simp at J;go_wp2_with fail;clear J f0;refine(Tw s B L z.2 _ G f4 Ck (b8.set Fr _)).mono ?_;rw[Ba g2];rintro e w2 ⟨v1,rfl,a9,c6,b0⟩;obtain⟨va,vc,rfl⟩:=Bh a9;have c7:=(b9.set (.inl Hd) _).trans b0;have A:=b0.own (Bt a0 _) Y;simp at A;have c1:=Bb A 1;have f1:=Bk A 1;simp at c1;have c8:Cq w2 w.heap.size (.s va L.toNat vc) h.1:=by
    unfold Cq;rw[Ba g5];exact D6 a9 Fr
   clear a9;go_wp2_with fail;clear c1 f1;refine(Kc s B 0 H h.2 _ G (c6.set Fr _)).mono ?_;rw[Ba g3];rintro e w3 ⟨rfl,c9,a1⟩;have b1:=(c7.set (.inl Hd) _).trans a1;have b2:=a1.own (Bt A _) Y;simp at b2;have d0:=(c8.kp (Kp.set (i:=1) A (.s va L.toNat vc)) Fm).kp (Kp.of_gr (e:=none) a1 m) Fm;clear c8;go_wp2_with fail;refine(Tw s B f.1 f.2 _ G g0 Ck c9).mono ?_;rw[Ba g4];rintro e w4 ⟨v2,rfl,b3,d1,a2⟩;obtain⟨C,D,rfl⟩:=Bh b3;have d2:=b1.trans a2;have a3:=a2.own b2 Y;have d3:=d0.kp (Kp.of_gr (e:=none) a2 m) Fm;have s3:=b1.size;have d4:Cq w4 w.heap.size (.s C f.1.toNat D) j.1:=by
    unfold Cq;rw[Ba g6];exact D6 b3 Ck
   clear b3 d0;obtain⟨J,c1,c2⟩:=cl3 a3;have f2:=Bk a3 2;simp at J c1 c2;have g:=Kp.set (b:=w.heap.size) (i:=2) a3 (.s C f.1.toNat D);have F:=d2.set (p:=.a wr.heap.size 2) (.inl Hd) (.s C f.1.toNat D);have K:=Zq I.1 F m;have d5:=fun p c=>Bto ((I.2 p c).1.kp (Kp.of_gr (e:=none) F m) Fm) ((I.2 p c).2.kp (Kp.of_gr (e:=none) F m) Fm);have d6:=d3.kp g Fm;have d7:=d4.kp g Fm;have d8:=d1.set (p:=.a wr.heap.size 2) Fr (.s C f.1.toNat D);have g8:=F.size;have d9:=Bc d5;clear d5 a0 A b2 a3 Z b0 a1 a2 b9 c7 b1 d2 b8 c6 c9 d1 d3 d4 g;go_wp2_with (at_builtin;refine Br3 _ rfl _ _ 131 rfl w.heap.size 266 i0 _ 3 56 underlying131 hi f6 f7 f8 rfl Fm _ _ _ rfl (K.alloc _) ⟨w4.heap.size,0,none⟩ 1 1 [.i z.1,.s va L.toNat vc,.s C f.1.toNat D] rfl rfl ?c1 ?c2 ?c3 ?c4 ?c5 ?_)
   case c1=>exact Dh _ _ _ _ Hd
   case c2=>intro u hu;simp at hu;rcases hu with rfl|rfl|rfl<;>rfl
   case c3=>have:=Ba a8;unfold maxLen;omega
   case c4=>have:=Ba a8;omega
   case c5=>simp at g8 ⊢;omega
   intro v' w5 f3 a4 _;have g9:=(d8.alloc _).grown a4 (Uu K m);have h0:=((N.trans F).alloc _).grown a4 (Uv K);have g:=(Kp.alloc (e:=some 266) (b:=w.heap.size) _ _).trans (Kp.of_grown a4 (K.alloc _));have h1:Mf w5 w.heap.size v' (l++[(⟨z.1,h.1,j.1⟩,.s va L.toNat vc,.s C f.1.toNat D)]):=by
    refine⟨?_,?_⟩
    ·rw[Xx,Ws];exact f3
    intro p c;rw[Bs1]at c;rcases c with c|c
    ·exact⟨(Ba d9 p c).1.kp g Fm,(Ba d9 p c).2.kp g Fm⟩
    simp only[Bth]at c;subst c;exact⟨d6.kp g Fm,d7.kp g Fm⟩
   have e1:(Rd.rep (Rd.mp s.data.toList L H) (k+1) r.2)=(p.1++[⟨z.1,h.1,j.1⟩],j.2):=by simp only[Rd.rep,Ba HP,Ba HQ]
   have HE:=Bc e1;have HK:=Bc g;clear e1 a4 K f3 a6 d8 F N J c1 c2 f2 g d6 d7 I;go_wp2;go_roundw
   case rel=>exact⟨k+1,_,Ck,Mg,by rw[Ws,Ba a8];rfl,by rw[Ba HE,Bse,Ba g7];rfl,h1,by rw[Ba HE];exact g9,h0⟩
   case measure=>simp[intOf];omega
  have e:k=r.1.toNat:=Ck;subst e;go_wp2;go_ret;exact⟨_,rfl,l,a5,I,a6,N⟩
def Du{w:TW}{k:Nat}{o:Obj}(h:w.heap[k]?=some o){p:Addr}(b:k≠p.block)(u:TX):(w.setCell p u).heap[k]?=some o:=by
 rw[Brk _ _ _ _ b];exact h
def Bhg(s:ByteArray)(B:Nat)(t:Rd.St)(w:TW)(m:s.size<=maxLen)(hR:Eg w B s t):Calls prog 157 #[.q B 0] w fun e w' => ∃a1 m1 d1 a2 m2 d2 a3 m3 d3 v m4 z,e=.r (.agg #[.i (Rd.mth s.data.toList t).1.cl,.i (Rd.mth s.data.toList t).1.name,.s a1 m1 d1,.i (Rd.mth s.data.toList t).1.result.1,.i (Rd.mth s.data.toList t).1.result.2,.i (Rd.mth s.data.toList t).1.locals,.i (Rd.mth s.data.toList t).1.stack,.s a2 m2 d2,.s a3 m3 d3,.s v m4 z])/\Ud w' w.heap.size (Rd.mth s.data.toList t).1 ⟨.s a1 m1 d1,.s a2 m2 d2,.s a3 m3 d3,.s v m4 z⟩/\Eg w' B s (Rd.mth s.data.toList t).2/\Gr B w w':=by
 have G:=hR.lt;unfold Rd.mth;dsimp only;generalize i0:Rd.nx s.data.toList t=Q;generalize i1:Rd.nx s.data.toList Q.2=K;generalize h1:Rd.cn s.data.toList 0 4 K.2=h;generalize h2:Rd.tys s.data.toList h.1.toNat h.2=q4;generalize i2:Rd.ty s.data.toList q4.2=g;generalize h3:Rd.cn s.data.toList 0 8 g.2=j;generalize h4:Rd.cn s.data.toList 0 8 j.2=A;generalize i3:Rd.codes s.data.toList A.2=I;generalize i4:Rd.hnds s.data.toList I.2=C;generalize i5:Rd.mps s.data.toList j.1 A.1 C.2=k4;have l4:q4.1.length=h.1.toNat:=by rw[<- h2];exact Uq _ _ _
 have b3:=Rd.cn_bd s.data.toList 0 4 K.2 Ck;have b6:=Rd.cn_bd s.data.toList 0 8 g.2 Ck;have b7:=Rd.cn_bd s.data.toList 0 8 j.2 Ck;rw[h1]at b3;rw[h3]at b6;rw[h4]at b7;obtain⟨i6,k5⟩:=b3;obtain⟨i7,i8⟩:=b6;obtain⟨i9,j0⟩:=b7;have j1:=Bc l4;have Q1:=Bc i0;have Q2:=Bc i1;have Q3:=Bc h1;have Q4:=Bc h2;have Q5:=Bc i2;have Q6:=Bc h3;have Q7:=Bc h4;have Q8:=Bc i3;have Q9:=Bc i4;have j2:=Bc i5;have D:w.heap.size+1≠B:=Ck;have F:w.heap.size≠B:=Ck;go_in;go_wp2_with fail;refine(Hp s B t _ m ((hR.alloc _).alloc _)).mono ?_;rw[Ba Q1];rintro e w1 ⟨rfl,j3,b0⟩;have G1:=(((Gr.refl B w).alloc _).alloc _).trans b0;have B1:=b0.own (Bx w _ _) D;have C1:=b0.own (Cb w _ _) F;have S1:=b0.size;simp at S1;have c0:=Bb B1 0;have f0:=Bk B1 0;simp at c0;go_wp2_with fail;refine(Hp s B Q.2 _ m (j3.set Fr _)).mono ?_;rw[Ba Q2];rintro e w2 ⟨rfl,j4,d5⟩;have G2:=(G1.set (.inl Hd) _).trans d5;have B2:=d5.own (Bt (i:=0) B1 (.i Q.1)) D;have C2:=d5.own (Du C1 (p:=.a (w.heap.size+1) 0) Hd (.i Q.1)) F;simp at B2;have S2:=G2.size;have c1:=Bb B2 1;have f1:=Bk B2 1;simp at c1;go_wp2_with fail;refine(Kc s B 0 4 K.2 _ m (j4.set Fr _)).mono ?_;rw[Ba Q3];rintro e w3 ⟨rfl,j5,d6⟩;have G3:=(G2.set (.inl Hd) _).trans d6;have B3:=d6.own (Bt (i:=1) B2 (.i K.1)) D;have C3:=d6.own (Du C2 (p:=.a (w.heap.size+1) 1) Hd (.i K.1)) F;simp at B3;have S3:=G3.size;go_wp2_with fail;refine(Tw s B h.1 h.2 _ m i6 Ck j5).mono ?_;rw[Ba Q4];rintro e w4 ⟨v4,rfl,h5,j6,d7⟩;have G4:=G3.trans d7;have B4:=d7.own B3 D;have C4:=d7.own C3 F;have S4:=G4.size;obtain⟨v,z,rfl⟩:=Bh h5;have c:Cq w4 w.heap.size (.s v h.1.toNat z) q4.1:=by
  unfold Cq;rw[Ba j1];exact D6 h5 Ck
 have c2:=Bb B4 2;have f2:=Bk B4 2;simp at c2;have c:=c.kp (Kp.set (i:=2) B4 (.s v h.1.toNat z)) Fm;go_wp2_with fail;refine(Xu s B q4.2 _ m (j6.set Fr _)).mono ?_;rw[Ba Q5];rintro e w5 ⟨rfl,j7,b1⟩;have G5:=(G4.set (.inl Hd) _).trans b1;have L:=b1.own (Bt (i:=2) B4 (.s v h.1.toNat z)) D;have C5:=b1.own (Du C4 (p:=.a (w.heap.size+1) 2) Hd (.s v h.1.toNat z)) F;simp at L;have S5:=G5.size;have c:=(c).kp (Kp.of_gr (e:=none) b1 G) Fm;have c3:=Bb L 3;have f3:=Bk L 3;simp at c3;have c4:=Bb L 4;have f4:=Bk L 4;simp at c4;have c:=c.kp (Kp.set (i:=3) L (.i g.1.1)) Fm;have c:=c.kp (Kp.set (i:=4) (Bt (i:=3) L (.i g.1.1)) (.i g.1.2)) Fm;go_wp2_with fail;refine(Kc s B 0 8 g.2 _ m ((j7.set Fr _).set Fr _)).mono ?_;rw[Ba Q6];rintro e w6 ⟨rfl,j8,b2⟩;have G6:=((G5.set (.inl Hd) _).set (.inl Hd) _).trans b2;have B6:=b2.own (Bt (i:=4) (Bt (i:=3) L (.i g.1.1)) (.i g.1.2)) D;have C6:=b2.own (Du (Du C5 (p:=.a (w.heap.size+1) 3) Hd (.i g.1.1)) (p:=.a (w.heap.size+1) 4) Hd (.i g.1.2)) F;simp at B6;have S6:=G6.size;have c:=(c).kp (Kp.of_gr (e:=none) b2 G) Fm;have c5:=Bb B6 5;have f5:=Bk B6 5;simp at c5;have c:=c.kp (Kp.set (i:=5) B6 (.i j.1)) Fm;go_wp2_with fail;refine(Kc s B 0 8 j.2 _ m (j8.set Fr _)).mono ?_;rw[Ba Q7];rintro e w7 ⟨rfl,j9,b4⟩;have G7:=(G6.set (.inl Hd) _).trans b4;have B7:=b4.own (Bt (i:=5) B6 (.i j.1)) D;have C7:=b4.own (Du C6 (p:=.a (w.heap.size+1) 5) Hd (.i j.1)) F;simp at B7;have S7:=G7.size;have c:=(c).kp (Kp.of_gr (e:=none) b4 G) Fm;have c6:=Bb B7 6;have f6:=Bk B7 6;simp at c6;have c:=c.kp (Kp.set (i:=6) B7 (.i A.1)) Fm;go_wp2_with fail;refine(Bni s B A.2 _ m (j9.set Fr _)).mono ?_;rw[Ba Q8];rintro e w8 ⟨v8,rfl,h6,k0,b5⟩;have G8:=(G7.set (.inl Hd) _).trans b5;have B8:=b5.own (Bt (i:=6) B7 (.i A.1)) D;have C8:=b5.own (Du C7 (p:=.a (w.heap.size+1) 6) Hd (.i A.1)) F;simp at B8;have S8:=G8.size;obtain⟨V,Y,rfl⟩:=Bh h6;have l:=h6.mono (b':=w.heap.size) Fr;have c:=(c).kp (Kp.of_gr (e:=none) b5 G) Fm;have c7:=Bb B8 7;have f7:=Bk B8 7;simp at c7;have c:=c.kp (Kp.set (i:=7) B8 (.s V I.1.length Y)) Fm;have l:=l.kp (Kp.set (i:=7) B8 (.s V I.1.length Y)) Fm;go_wp2_with fail;refine(Bd0 s B I.2 _ m (k0.set Fr _)).mono ?_;rw[Ba Q9];rintro e w9 ⟨v9,rfl,h7,k1,a5⟩;have G9:=(G8.set (.inl Hd) _).trans a5;have J:=a5.own (Bt (i:=7) B8 (.s V I.1.length Y)) D;have C9:=a5.own (Du C8 (p:=.a (w.heap.size+1) 7) Hd (.s V I.1.length Y)) F;simp at J;have S9:=G9.size;obtain⟨N,O,rfl⟩:=Bh h7;have Z:=h7.mono (b':=w.heap.size) Fr;have c:=(c).kp (Kp.of_gr (e:=none) a5 G) Fm;have l:=(l).kp (Kp.of_gr (e:=none) a5 G) Fm;have c8:=Bb J 8;have f8:=Bk J 8;simp at c8;have c:=c.kp (Kp.set (i:=8) J (.s N C.1.length O)) Fm;have l:=l.kp (Kp.set (i:=8) J (.s N C.1.length O)) Fm;have Z:=Z.kp (Kp.set (i:=8) J (.s N C.1.length O)) Fm;have c5:=Bb J 5;have c6:=Bb J 6;simp at c5 c6;go_wp2_with fail;refine(Bmw s B j.1 A.1 C.2 _ m i7 i8 i9 j0 (k1.set Fr _)).mono ?_;rw[Ba j2];rintro e k6 ⟨k7,a6,rfl,k2,h8,k3,a0⟩;have h9:=(G9.set (.inl Hd) _).trans a0;have a7:=a0.own (Bt (i:=8) J (.s N C.1.length O)) D;have f:=a0.own (Du C9 (p:=.a (w.heap.size+1) 8) Hd (.s N C.1.length O)) F;simp at a7;have k8:=h9.size;obtain⟨b8,b9,rfl⟩:=Bh h8.1;have h0:=h8.mono (b':=w.heap.size) Fr;have c:=(c).kp (Kp.of_gr (e:=none) a0 G) Fm;have l:=(l).kp (Kp.of_gr (e:=none) a0 G) Fm;have Z:=(Z).kp (Kp.of_gr (e:=none) a0 G) Fm;have c9:=Bb a7 9;have f9:=Bk a7 9;simp at c9;obtain⟨c0,c1,c2,c3,c4,c5,c6,c7,c8⟩:=cl9 a7;simp at c0 c1 c2 c3 c4 c5 c6 c7 c8;have z0:=Bb f 0;have g0:=Bk f 0;have z1:=Bb f 1;have g1:=Bk f 1;have z2:=Bb f 2;have g2:=Bk f 2;have z3:=Bb f 3;have g3:=Bk f 3;have z4:=Bb f 4;have g4:=Bk f 4;have z5:=Bb f 5;have g5:=Bk f 5;have z6:=Bb f 6;have g6:=Bk f 6;have z7:=Bb f 7;have g7:=Bk f 7;have z8:=Bb f 8;have g8:=Bk f 8;have z9:=Bb f 9;have g9:=Bk f 9;simp at z0 z1 z2 z3 z4 z5 z6 z7 z8 z9;have d0:=Kp.set (b:=w.heap.size) (i:=9) a7 (.s b8 a6.length b9);have c:=c.kp d0 Fm;have l:=l.kp d0 Fm;have Z:=Z.kp d0 Fm;have h0:=h0.kp d0 Fm Fm;go_wp2_with fail;refine tb (.agg #[.i Q.1,.i K.1,.s v h.1.toNat z,.i g.1.1,.i g.1.2,.i j.1,.i A.1,.s V I.1.length Y,.s N C.1.length O,.s b8 a6.length b9]) (by simp[results,results157,go_sem,z0,z1,z2,z3,z4,z5,z6,z7,z8,z9]) ?_;refine⟨_,_,_,_,_,_,_,_,_,_,_,_,rfl,?_,?_,?_⟩;have E0:=(Du f (p:=.a (w.heap.size+1) 9) Hd (.s b8 a6.length b9));have F0:=Kp.set (b:=w.heap.size) (i:=0) E0 (.i Q.1);have E1:=Bt (i:=0) E0 (.i Q.1);have F1:=F0.trans (Kp.set (b:=w.heap.size) (i:=1) E1 (.i K.1));have E2:=Bt (i:=1) E1 (.i K.1);have F2:=F1.trans (Kp.set (b:=w.heap.size) (i:=2) E2 (.s v h.1.toNat z));have E3:=Bt (i:=2) E2 (.s v h.1.toNat z);have F3:=F2.trans (Kp.set (b:=w.heap.size) (i:=3) E3 (.i g.1.1));have E4:=Bt (i:=3) E3 (.i g.1.1);have F4:=F3.trans (Kp.set (b:=w.heap.size) (i:=4) E4 (.i g.1.2));have E5:=Bt (i:=4) E4 (.i g.1.2);have F5:=F4.trans (Kp.set (b:=w.heap.size) (i:=5) E5 (.i j.1));have E6:=Bt (i:=5) E5 (.i j.1);have F6:=F5.trans (Kp.set (b:=w.heap.size) (i:=6) E6 (.i A.1));have E7:=Bt (i:=6) E6 (.i A.1);have F7:=F6.trans (Kp.set (b:=w.heap.size) (i:=7) E7 (.s V I.1.length Y));have E8:=Bt (i:=7) E7 (.s V I.1.length Y);have F8:=F7.trans (Kp.set (b:=w.heap.size) (i:=8) E8 (.s N C.1.length O));have E9:=Bt (i:=8) E8 (.s N C.1.length O);have F9:=F8.trans (Kp.set (b:=w.heap.size) (i:=9) E9 (.s b8 a6.length b9))
 ·exact⟨c.kp F9 Fm,l.kp F9 Fm,Z.kp F9 Fm,a6,k2,h0.kp F9 Fm Fm⟩
 ·exact(((((((((((k3.set Fr _).set Fr _).set Fr _).set Fr _).set Fr _).set Fr _).set Fr _).set Fr _).set Fr _).set Fr _).set Fr _)
 exact(((((((((((h9.set (.inl Hd) _).set (.inl Hd) _).set (.inl Hd) _).set (.inl Hd) _).set (.inl Hd) _).set (.inl Hd) _).set (.inl Hd) _).set (.inl Hd) _).set (.inl Hd) _).set (.inl Hd) _).set (.inl Hd) _)
def Tryz.infoClass:(prog.info? 139).map (fun i=>(i.zero,i.size,i.bytes))=some (some (.agg #[.i 0,.s none 0 0]),2,32):=Lt
def Tryz.infoMethod:(prog.info? 133).map (fun i=>(i.zero,i.size,i.bytes))=some (some (.agg #[.i 0,.i 0,.s none 0 0,.i 0,.i 0,.i 0,.i 0,.s none 0 0,.s none 0 0,.s none 0 0]),10,144):=Lt
def Yw(s:ByteArray)(B:Nat)(t:Rd.St)(w:TW)(hs:s.size<=maxLen)(hR:Eg w B s t):Calls prog 104 #[.q B 0] w fun e w' => ∃a1 K c1 a2 n2 c2 l1 l2,e=.r (.agg #[.s a1 K c1,.s a2 n2 c2])/\l1.map Prod.fst=(Rd.fil s.data.toList t).1.classes/\Fh w' w.heap.size (.s a1 K c1) l1/\l2.map Prod.fst=(Rd.fil s.data.toList t).1.methods/\Eb w' w.heap.size (.s a2 n2 c2) l2/\Eg w' B s (Rd.fil s.data.toList t).2/\Gr B w w':=by
 have a8:=hR.lt;obtain⟨i0,hi,f4,f5,f6⟩:=Bsa Tryz.infoClass;obtain⟨j0,hj,f7,f8,f9⟩:=Bsa Tryz.infoMethod;unfold Rd.fil;dsimp only;generalize d6:Rd.ex s.data.toList 83 t=q1;generalize d7:Rd.ex s.data.toList 77 q1=q2;generalize b8:Rd.cn s.data.toList 0 6 q2=C;generalize d8:Rd.rep (Rd.cls s.data.toList) C.1.toNat C.2=q4;generalize b9:Rd.cn s.data.toList 1 6 q4.2=q5;have b3:=Rd.cn_bd s.data.toList 0 6 q2 Ck;rw[b8]at b3;obtain⟨g9,h0⟩:=b3;have b5:=Rd.cn_bd s.data.toList 1 6 q4.2 Ck;rw[b9]at b5;obtain⟨h1,h2⟩:=b5;have Q4:=Bc d8;have Q5:=Bc b9;have Q1:=Bc d6;have Q2:=Bc d7;have Q3:=Bc b8;clear d6 d7 b8 d8 b9;have K:w.heap.size+1≠B:=Ck;have n0:w.heap.size≠B:=Ck;go_in;go_wp2_with fail;refine(Ae s B 83 t _ hs ((hR.alloc _).alloc _)).mono ?_;rw[Ba Q1];rintro e w1 ⟨rfl,d9,b2⟩;have G1:=(((Gr.refl B w).alloc _).alloc _).trans b2;have B1:=b2.own (Bx w _ _) K;have C1:=b2.own (Cb w _ _) n0;go_wp2_with fail;refine(Ae s B 77 q1 _ hs d9).mono ?_;rw[Ba Q2];rintro e w2 ⟨rfl,f2,b4⟩;have G2:=G1.trans b4;have B2:=b4.own B1 K;have C2:=b4.own C1 n0;go_wp2_with fail;refine(Kc s B 0 6 q2 _ hs f2).mono ?_;rw[Ba Q3];rintro e w3 ⟨rfl,f3,b6⟩;have G3:=G2.trans b6;have B3:=b6.own B2 K;have C3:=b6.own C2 n0;clear G1 G2 B1 B2 C1 C2 b2 b4 b6 d9 f2;go_wp2
 go_loopw [5] (fun i wr=>∃(k:Nat) (l:List (Rd.Cls×Value)) (v:TX),(k:Int)<=C.1/\i=.i k/\l.length=k/\l.map Prod.fst=(Rd.rep (Rd.cls s.data.toList) k C.2).1/\Fh wr w.heap.size v l /\
   wr.heap[w.heap.size+1]?=some (.cells #[v,.s none 0 0] 84 (0,0))/\wr.heap[w.heap.size]?=some (O1 none 0 0 none 0 0) /\
   Eg wr B s (Rd.rep (Rd.cls s.data.toList) k C.2).2/\Gr B w wr)
  (fun i _=>C.1.toNat-(intOf i).toNat)
 case atStart=>exact⟨0,[],_,Ck,rfl,rfl,rfl,⟨Brw _ _ _ _,Hd⟩,B3,C3,f3,G3⟩
 case round=>
  obtain⟨k,l,v,hk,rfl,a5,L,D,hB,g,N,F⟩:=hrel;have b7:=F.size;by_cases g2:(k:Int)<C.1
  ·generalize c:Rd.rep (Rd.cls s.data.toList) k C.2=p at *;generalize hq:Rd.cls s.data.toList p.2=q;have HP:=Bc c;have HQ:=Bc hq;have a6:=Bc a5;have c0:=Bc L;clear c hq a5 L;go_wp2_with fail;refine(Bk1 s B p.2 _ hs N).mono ?_;rw[Ba HQ];rintro e w4 ⟨u,rfl,G,a0,f⟩;obtain⟨ua,uc,rfl⟩:=Bh G;have h:=f.own hB K;have a9:=f.own g n0;have I:=F.trans f;have g3:=I.size;obtain⟨va,vc,rfl⟩:=Bh D.1;have O:=D.kp (Kp.of_gr (e:=none) f a8) Fm Fm;have b0:=G.mono b7;have x0:=Bb h 0;have f0:=Bk h 0;have g4:=Sp h;have g5:=Bc O.2;have j:=O.1;simp at x0;clear G D O;go_wp2_with (at_builtin;refine Br3 _ rfl _ _ 81 rfl w.heap.size 139 i0 _ 2 32 underlying81 hi f4 f5 f6 rfl Fm _ _ _ rfl ((j.alloc _).alloc _) ⟨w4.heap.size+1,0,none⟩ 1 1 [.i q.1.above,.s ua q.1.fields.length uc] rfl rfl ?c1 ?c2 ?c3 ?c4 ?c5 ?_)
   case c1=>exact Dh _ _ _ _ Hd
   case c2=>intro u hu;simp at hu;rcases hu with rfl|rfl<;>rfl
   case c3=>have:=Ba a6;unfold maxLen;omega
   case c4=>have:=Ba a6;omega
   case c5=>simp;omega
   intro v' w5 a7 Q _;obtain⟨z,A,rfl⟩:=Bh a7;have c6:=((a0.alloc _).alloc _).grown Q (Uu j a8);have c7:=((I.alloc _).alloc _).grown Q (Uv j);have J:=((Kp.alloc (e:=some 139) (b:=0) _ _).trans (Kp.alloc _ _)).trans (Kp.of_grown Q ((j.alloc _).alloc _));have V:=J _ _ _ (Bsb _) h Fm;have c8:=J _ _ _ (Bsb _) a9 Fm;have x1:=Bb V 0;have f1:=Bk V 0;simp at x1;have Y:Kp (some 139) w.heap.size w4 w5:=fun k cs t _ hc G=>J k cs t (Bsb _) hc G;have c9:Fh (w5.setCell (.a (w.heap.size+1) 0) (.s z (l.length+1) A)) w.heap.size (.s z (l.length+1) A) (l++[(q.1,.s ua q.1.fields.length uc)]):=by
    have Z:=Kp.set (b:=w.heap.size) (i:=0) V (.s z (l.length+1) A);refine⟨?_,?_⟩
    ·rw[Yf,Ws];exact Dc a7 Z Fm
    intro p c;rw[Bs1]at c;rcases c with c|c
    ·exact((Ba g5 p c).kp Y Fm).kp Z Fm
    simp only[Bth]at c;subst c;exact(b0.kp Y Fm).kp Z Fm
   have e1:(Rd.rep (Rd.cls s.data.toList) (k+1) C.2)=(p.1++[q.1],q.2):=by simp only[Rd.rep,Ba HP,Ba HQ]
   have HE:=Bc e1;have HB:=Bt (i:=0) V (.s z (l.length+1) A);have HC:=Du c8 (p:=.a (w.heap.size+1) 0) Hd (.s z (l.length+1) A);have HK:=Bc J;have h3:=Bc Y;clear e1 Q j a7 N a0 f I F x0 f0 J Y b0 hB g h a9;go_wp2;go_roundw
   case rel=>exact⟨k+1,_,_,Ck,Mg,by rw[Ws,Ba a6];rfl,by rw[Ba HE,Bse,Ba c0];rfl,c9,HB,HC,by rw[Ba HE];exact c6.set Fr _,c7.set (.inl Hd) _⟩
   case measure=>simp[intOf];omega
  have e:k=C.1.toNat:=Ck;subst e;clear f3 G3 B3 C3;rw[Ba Q4]at L N;have c0:=Bc L;clear L a5;obtain⟨va,vc,rfl⟩:=Bh D.1;go_wp2_with fail;refine(Kc s B 1 6 q4.2 _ hs N).mono ?_;rw[Ba Q5];rintro e w4 ⟨rfl,a0,f⟩;have I:=F.trans f;have B4:=f.own hB K;have C4:=f.own g n0;have O:=D.kp (Kp.of_gr (e:=none) f a8) Fm Fm;clear hB g D F f N hk b7;go_wp2
  go_loopw [8] (fun i wr=>∃(k:Nat) (m:List (Rd.Mth×Ex)) (v:TX),(k:Int)<=q5.1/\i=.i k/\m.length=k/\m.map Prod.fst=(Rd.rep (Rd.mth s.data.toList) k q5.2).1/\Eb wr w.heap.size v m /\
    Fh wr w.heap.size (.s va l.length vc) l /\
    wr.heap[w.heap.size+1]?=some (.cells #[.s va l.length vc,v] 84 (0,0))/\wr.heap[w.heap.size]?=some (O1 none 0 0 none 0 0) /\
    Eg wr B s (Rd.rep (Rd.mth s.data.toList) k q5.2).2/\Gr B w wr)
   (fun i _=>q5.1.toNat-(intOf i).toNat)
  case atStart=>exact⟨0,[],_,Ck,rfl,rfl,rfl,⟨Brw _ _ _ _,Hd⟩,O,B4,C4,a0,I⟩
  case round=>
   clear O B4 C4 a0 I;obtain⟨k,m,v,hk,rfl,a5,L,b1,D,hB,g,N,F⟩:=hrel;have b7:=F.size;by_cases g2:(k:Int)<q5.1
   ·generalize c:Rd.rep (Rd.mth s.data.toList) k q5.2=p at *;generalize hq:Rd.mth s.data.toList p.2=q;have HP:=Bc c;have HQ:=Bc hq;have a6:=Bc a5;have g6:=Bc L;clear c hq a5 L;obtain⟨vb,vd,rfl⟩:=Bh b1.1;go_wp2_with fail;refine(Bhg s B p.2 _ hs N).mono ?_;rw[Ba HQ];rintro e w4 ⟨a1,m1,d1,a2,m2,d2,a3,m3,d3,a4,m4,d4,rfl,G,a0,f⟩;have h:=f.own hB K;have a9:=f.own g n0;have I:=F.trans f;have g3:=I.size;have d0:=b1.kp (Kp.of_gr (e:=none) f a8) Fm Fm Fm Fm Fm;have O:=D.kp (Kp.of_gr (e:=none) f a8) Fm Fm;have b0:=G.mono b7;have x0:=Bb h 1;have f0:=Bk h 1;have g4:=Sp h;have g7:=Bc d0.2;have j:=d0.1;simp at x0;clear G b1 d0 D;go_wp2_with (at_builtin;refine Br3 _ rfl _ _ 82 rfl w.heap.size 133 j0 _ 10 144 underlying82 hj f7 f8 f9 rfl Fm _ _ _ rfl ((j.alloc _).alloc _) ⟨w4.heap.size+1,0,none⟩ 1 1 (Mb q.1 ⟨.s a1 m1 d1,.s a2 m2 d2,.s a3 m3 d3,.s a4 m4 d4⟩) rfl rfl ?d1 ?d2 ?d3 ?d4 ?d5 ?_)
    case d1=>exact Dh _ _ _ _ Hd
    case d2=>intro u hu;simp[Mb]at hu;rcases hu with rfl|rfl|rfl|rfl|rfl|rfl|rfl|rfl|rfl|rfl<;>rfl
    case d3=>have:=Ba a6;unfold maxLen;omega
    case d4=>have:=Ba a6;omega
    case d5=>simp;omega
    intro v' w5 a7 Q _;obtain⟨z,A,rfl⟩:=Bh a7;have c6:=((a0.alloc _).alloc _).grown Q (Uu j a8);have c7:=((I.alloc _).alloc _).grown Q (Uv j);have J:=((Kp.alloc (e:=some 133) (b:=0) _ _).trans (Kp.alloc _ _)).trans (Kp.of_grown Q ((j.alloc _).alloc _));have V:=J _ _ _ (Bsb _) h Fm;have c8:=J _ _ _ (Bsb _) a9 Fm;have x1:=Bb V 1;have f1:=Bk V 1;simp at x1;have Y:Kp (some 133) w.heap.size w4 w5:=fun k cs t _ hc G=>J k cs t (Bsb _) hc G;have Z:=Kp.set (b:=w.heap.size) (i:=1) V (.s z (m.length+1) A);have g8:Eb (w5.setCell (.a (w.heap.size+1) 1) (.s z (m.length+1) A)) w.heap.size (.s z (m.length+1) A) (m++[(q.1,⟨.s a1 m1 d1,.s a2 m2 d2,.s a3 m3 d3,.s a4 m4 d4⟩)]):=by
     refine⟨?_,?_⟩
     ·rw[Bdh,Ws];exact Dc a7 Z Fm
     intro p c;rw[Bs1]at c;rcases c with c|c
     ·exact((Ba g7 p c).kp Y Fm Fm Fm Fm).kp Z Fm Fm Fm Fm
     simp only[Bth]at c;subst c;exact(b0.kp Y Fm Fm Fm Fm).kp Z Fm Fm Fm Fm
    have c9:=(O.kp Y Fm Fm).kp Z Fm Fm;have e1:(Rd.rep (Rd.mth s.data.toList) (k+1) q5.2)=(p.1++[q.1],q.2):=by simp only[Rd.rep,Ba HP,Ba HQ]
    have HE:=Bc e1;have HB:=Bt (i:=1) V (.s z (m.length+1) A);have HC:=Du c8 (p:=.a (w.heap.size+1) 1) Hd (.s z (m.length+1) A);clear e1 Q j a7 N a0 f I F x0 f0 J Y b0 hB g h a9 Z O;go_wp2;go_roundw
    case rel=>exact⟨k+1,_,_,Ck,Mg,by rw[Ws,Ba a6];rfl,by rw[Ba HE,Bse,Ba g6];rfl,g8,c9,HB,HC,by rw[Ba HE];exact c6.set Fr _,c7.set (.inl Hd) _⟩
    case measure=>simp[intOf];omega
   have e:k=q5.1.toNat:=Ck;subst e;obtain⟨vb,vd,rfl⟩:=Bh b1.1;clear a5;obtain⟨x0,x1⟩:=cl2 hB;obtain⟨y0,y1⟩:=cl2 g;obtain⟨g0,g1⟩:=fr2 g;simp at x0 x1 y0 y1;go_wp2_with fail;refine tb (.agg #[.s va l.length vc,.s vb m.length vd]) (by simp[results,results104,go_sem,y0,y1]) ?_;have k1:=(Kp.set (b:=w.heap.size) (i:=0) g (.s va l.length vc)).trans (Kp.set (i:=1) (Bt (i:=0) g (.s va l.length vc)) (.s vb m.length vd));refine⟨_,_,_,_,_,_,rfl,l,Ba c0,D.kp k1 Fm Fm,m,L,b1.kp k1 Fm Fm Fm Fm Fm,?_,?_⟩
   ·exact(N.set Fr _).set Fr _
   exact(F.set (.inl Hd) _).set (.inl Hd) _
def Rd.read(s:TB):Rd.Fil × Int :=
 if 15000<s.length then (⟨[],[]⟩,1)
 else if (Rd.fil s ⟨0,false⟩).2.bad=true\/(Rd.fil s ⟨0,false⟩).2.pos≠s.length then (⟨[],[]⟩,2)
 else ((Rd.fil s ⟨0,false⟩).1,0)
def Bmb(s:ByteArray)(w:TW)(L:s.size<=maxLen):Calls prog 67 #[.string s] w fun e g => ∃h j l m p t,e=.r (.tuple #[.agg #[.s h j l,.s m p t],.i (Rd.read s.data.toList).2])/\Bli g w.heap.size (.s h j l) (Rd.read s.data.toList).1.classes/\Blg g w.heap.size (.s m p t) (Rd.read s.data.toList).1.methods/\Bl w g:=by
 have a9:s.data.toList.length=s.size:=Hd;unfold Rd.read;rw[a9];have b0:∀g:TW,Bli g w.heap.size (.s none 0 0) []:=fun g=>⟨[],rfl,Brw _ _ _ _,Hd⟩;have b1:∀g:TW,Blg g w.heap.size (.s none 0 0) []:=fun g=>⟨[],rfl,Brw _ _ _ _,Hd⟩;have N:=Bc b0;have O:=Bc b1;by_cases h1:15000<s.size;·rw[Th h1];have b2:(15000:Int)<(s.size:Int):=Ck;go_in;go_wp2;refine tb (.tuple #[.agg #[.s none 0 0,.s none 0 0],.i 1]) (by simp[results,Bvo,go_sem]) ?_;exact⟨none,0,0,none,0,0,rfl,Ba N _,Ba O _,QN _⟩
 rw[Pk h1];generalize hq:Rd.fil s.data.toList ⟨0,false⟩=q;have Q:=Bc hq;have b2:¬(15000:Int)<(s.size:Int):=Ck;have V:Eg ((w.alloc (O1 none 0 0 none 0 0)).alloc (O0 s 0 false)) (w.heap.size+1) s ⟨0,false⟩:=Bx w _ _;cases a7:q.2.bad with
 | true =>
  rw[Th (.inl rfl)];have K:=Bc a7;go_in;go_wp2_with fail;refine(Yw s (w.heap.size+1) ⟨0,false⟩ _ L V).mono ?_;rw[Ba Q];rintro e B ⟨h,j,l,m,p,t,Y,Z,rfl,C,a0,D,a3,v,f⟩;have c:=f.own (Cb w _ _) Ck;obtain⟨x0,x1,F,f0,f1,f2⟩:=v.cells;rw[Ba K]at F;obtain⟨z,A⟩:=cl2 c;obtain⟨g0,g1⟩:=fr2 c;simp at z A;have G:=f.size;simp at G;have I:=Sp c;have a8:=v.lt;have J:Bl w B:=((((Gr.refl (w.heap.size+1) w).alloc _).alloc _).trans f).below Ck;have a4:=Bc C;have a5:=Bc D;go_wp2_with fail;refine tb (.tuple #[.agg #[.s none 0 0,.s none 0 0],.i 2]) (by simp[results,Bvo,go_sem,z,A,I]) ?_;exact⟨none,0,0,none,0,0,rfl,Ba N _,Ba O _,((J.setCell Hd _).setCell Hd _).alloc Fr _⟩
 | false =>
  have K:=Bc a7;by_cases a6:q.2.pos=s.size
  ·rw[Pk (by simp[a6])];have b3:((q.2.pos:Int) != (s.size:Int))=false:=by simp[a6]
   go_in;go_wp2_with fail;refine(Yw s (w.heap.size+1) ⟨0,false⟩ _ L V).mono ?_;rw[Ba Q];rintro e B ⟨h,j,l,m,p,t,Y,Z,rfl,C,a0,D,a3,v,f⟩;have c:=f.own (Cb w _ _) Ck;obtain⟨x0,x1,F,f0,f1,f2⟩:=v.cells;rw[Ba K]at F;obtain⟨z,A⟩:=cl2 c;obtain⟨g0,g1⟩:=fr2 c;simp at z A;have G:=f.size;simp at G;have I:=Sp c;have a8:=v.lt;have J:Bl w B:=((((Gr.refl (w.heap.size+1) w).alloc _).alloc _).trans f).below Ck;have a4:=Bc C;have a5:=Bc D;go_wp2_with fail;refine tb (.tuple #[.agg #[.s h j l,.s m p t],.i 0]) (by simp[results,Bvo,go_sem,z,A,I]) ?_;have k1:=((Kp.set (b:=w.heap.size) (i:=0) c (.s h j l)).trans (Kp.set (i:=1) (Bt (i:=0) c (.s h j l)) (.s m p t))).trans (Kp.alloc _ (O1 h j l m p t));refine⟨_,_,_,_,_,_,rfl,⟨Y,Ba a4,?_⟩,⟨Z,Ba a5,?_⟩,((J.setCell Hd _).setCell Hd _).alloc Fr _⟩
   ·exact(a0.mono Fr).kp k1 Fm Fm
   exact(a3.mono Fr).kp k1 Fm Fm Fm Fm Fm
  rw[Th (.inr a6)];have b3:((q.2.pos:Int) != (s.size:Int))=true:=Fr;go_in;go_wp2_with fail;refine(Yw s (w.heap.size+1) ⟨0,false⟩ _ L V).mono ?_;rw[Ba Q];rintro e B ⟨h,j,l,m,p,t,Y,Z,rfl,C,a0,D,a3,v,f⟩;have c:=f.own (Cb w _ _) Ck;obtain⟨x0,x1,F,f0,f1,f2⟩:=v.cells;rw[Ba K]at F;obtain⟨z,A⟩:=cl2 c;obtain⟨g0,g1⟩:=fr2 c;simp at z A;have G:=f.size;simp at G;have I:=Sp c;have a8:=v.lt;have J:Bl w B:=((((Gr.refl (w.heap.size+1) w).alloc _).alloc _).trans f).below Ck;have a4:=Bc C;have a5:=Bc D;go_wp2_with fail;refine tb (.tuple #[.agg #[.s none 0 0,.s none 0 0],.i 2]) (by simp[results,Bvo,go_sem,z,A,I]) ?_;exact⟨none,0,0,none,0,0,rfl,Ba N _,Ba O _,((J.setCell Hd _).setCell Hd _).alloc Fr _⟩
namespace Tr
def ov (l:TI)(c:Int):Int:=if c<0 then -1 else if (l.length:Int)<=c then -1 else l.getD c.toNat 0
def upTo (l:TI)(high:Int):Nat->Int->Bool
 | 0,_=>false
 | n+1,pos=>if pos = -1 then false else if pos=high then true else upTo l high n (ov l pos)
def below(l:TI)(low high:Int):Bool:=upTo l high l.length (ov l low)
def hasB (l:TI)(c:Int):Bool:=decide (0<=c)&&decide (c<(l.length:Int))
def plainB(l:TI)(k n:Int):Bool:=if k=1 then n==0 else if k=3 then hasB l n else false
def settledB(l:TI)(k n:Int):Bool:=if k=0\/k=2 then n==0 else plainB l k n
def fitsB(l:TI)(k n k' n':Int):Bool :=
 if k=k'/\n=n' then true else if k'=0 then true else if k' ≠ 3 then false else if k=2 then true else if k=3 then below l n n' else false
def allPlainB(l:TI)(fs:TP):Bool:=fs.all fun f=>plainB l f.1 f.2
end Tr
variable {ya:Option Addr}{yn yc:Nat}
def Dy (w:TW)(g:Nat)(l:TI):Prop:=g<w.heap.size/\∀i,i<l.length->w.cell? ⟨g,i,none⟩=some (.int .i64 (l.getD i 0))
def Dy.below{w s:TW}{u:Nat}{z:TI}(h:Dy w u z)(b:Bl w s):Dy s u z :=
 ⟨Brs h.1 b.size,fun i c=>by rw[b.cell (p:=.a u i) h.1];exact h.2 i c⟩
def Dy.alloc{w:TW}{u:Nat}{z:TI}(h:Dy w u z)(o:Obj):Dy (w.alloc o) u z:=h.below (QN _)
def Bda(l:TI)(g b:Nat)(c:Int)(w:TW)(f:Dy w g l):Calls prog 225 #[.agg #[.s (.p g) l.length b,.s ya yn yc],.i c] w fun e m=>e=.r (.i (Tr.ov l c))/\Bl w m:=by
 unfold Tr.ov;by_cases h:c<0;·rw[Th h];go_in;go_wp2;go_ret;exact⟨rfl,QN _⟩
 rw[Pk h];by_cases j:(l.length:Int)<=c;·rw[Th j];go_in;go_wp2;go_ret;exact⟨rfl,QN _⟩
 rw[Pk j];obtain⟨i,rfl⟩:=Brp (show 0<=c by omega);have q:i<l.length:=Ck;have t:=(f.alloc (O2 (.p g) l.length b ya yn yc)).2 i q;have v:=f.1;go_in;go_wp2;go_ret;exact⟨rfl,QN _⟩
def A8(l:TI)(a:TA)(b:Nat)(c:Int)(w:TW):Calls prog 212 #[.agg #[.s a l.length b,.s ya yn yc],.i c] w fun e f=>e=.r (.bool (Tr.hasB l c))/\Bl w f:=by
 unfold Tr.hasB;by_cases g:0<=c;·go_in;go_wp2;go_ret;exact⟨by simp[g],QN _⟩
 go_in;go_wp2;go_ret;exact⟨Fr,QN _⟩
def Biz{z:TI}{c B:Int}{n:Nat}(b:B ≠ -1)(e:B≠c):Tr.upTo z c (n+1) B=Tr.upTo z c n (Tr.ov z B):=by
 simp[Tr.upTo,b,e]
def Blw{z:TI}{c B:Int}{n:Nat}(b:B ≠ -1)(e:B=c):Tr.upTo z c (n+1) B=true:=by
 subst e;simp[Tr.upTo,b]
def Blt{z:TI}{c B:Int}{n:Nat}(b:B = -1):Tr.upTo z c n B=false:=by
 cases n<;>simp[Tr.upTo,b]
def W2(l:TI)(g b:Nat)(z c:Int)(w:TW)(hl:l.length<=1000)(A:Dy w g l):Calls prog 171 #[.agg #[.s (.p g) l.length b,.s ya yn yc],.i z,.i c] w fun e I=>e=.r (.bool (Tr.below l z c))/\Bl w I:=by
 unfold Tr.below;generalize J:Tr.upTo l c l.length (Tr.ov l z)=r;have j:=Bc J;have hg:=A.1;have K:=A.alloc (O2 (.p g) l.length b ya yn yc);have L:Bl w (w.alloc (O2 (.p g) l.length b ya yn yc)):=QN _;have N:=Be w (O2 (.p g) l.length b ya yn yc);go_in;go_wp2_with fail;refine Qm (Bda l g b z _ K) ?_;intro C D;have O:Bl w C:=L.trans (D.mono Hd);have Q:C.heap[w.heap.size]?=some (O2 (.p g) l.length b ya yn yc):=(D.block _ Hd).trans N;go_wp2
 go_loopw [7,8] (fun p i wr=>∃(k:Nat) (q:Int),k<=l.length/\i=.i k/\p=.i q/\Hid (Tr.upTo l c (l.length-k) q=r)/\Bl w wr /\
   wr.heap[w.heap.size]?=some (O2 (.p g) l.length b ya yn yc))
  (fun _ i _=>l.length-(intOf i).toNat)
 case atStart=>exact⟨0,_,Ck,rfl,rfl,j,O,Q⟩
 case round=>
  obtain⟨k,q,hk,rfl,rfl,j,t,B⟩:=hrel;obtain⟨V,Y⟩:=cl2 B;simp at V Y;by_cases a4:k<l.length
  ·by_cases f:q = -1
   ·have Z:(q != -1)=false:=by simp[f]
    have v:r=false:=by rw[<- Ba j];exact Blt f
    have h:=Bc v;have F:=Bc f;go_wp2;go_ret;exact⟨by rw[Ba h];rfl,t⟩
   have Z:(q != -1)=true:=by simp[f]
   by_cases m:q=c
   ·have a0:(q==c)=true:=by simp[m]
    have v:r=true:=by rw[<- Ba j,show l.length-k=(l.length-k-1)+1 by omega];exact Blw f m
    have h:=Bc v;have F:=Bc f;have H2:=Bc m;go_wp2;go_ret;exact⟨by rw[Ba h];rfl,t⟩
   have a0:(q==c)=false:=by simp[m]
   have h:Hid (Tr.upTo l c (l.length-(k+1)) (Tr.ov l q)=r):=by
    unfold Hid;rw[<- Ba j,show l.length-k=(l.length-(k+1))+1 by omega,Biz f m]
   have F:=Bc f;have H2:=Bc m;have a1:=A.below t;go_wp2_with fail;refine Qm (Bda l g b q _ a1) ?_;intro w2 G;have a2:Bl w w2:=QB t G;have a3:=(G.block _ (Sp B)).trans B;go_wp2;go_roundw
   case rel=>exact⟨k+1,_,Ck,Mg,rfl,h,a2,a3⟩
   case measure=>simp[intOf];omega
  have v:r=false:=by rw[<- Ba j,show l.length-k=0 by omega];rfl
  have h:=Bc v;go_wp2;go_ret;exact⟨by rw[Ba h];rfl,t⟩
variable {ya:Option Addr}{yn yc:Nat}
def Bu(w:TW)(o b:Obj):Bl w ((w.alloc o).alloc b):=(QN _).alloc Hd _
def Em(w:TW)(o b c:Obj):Bl w (((w.alloc o).alloc b).alloc c):=((QN _).alloc Hd _).alloc Fr _
def Rq(l:TI)(a:TA)(f:Nat)(k n:Int)(w:TW):Calls prog 210 #[.agg #[.s a l.length f,.s ya yn yc],.agg #[.i k,.i n]] w fun e g=>e=.r (.bool (Tr.plainB l k n))/\Bl w g:=by
 unfold Tr.plainB;by_cases b:k=1
 ·rw[Th b];have h:(k==1)=true:=by simp[b]
  go_in;go_wp2;go_ret;exact⟨rfl,Bu _ _ _⟩
 rw[Pk b];have h:(k==1)=false:=by simp[b]
 by_cases c:k=3
 ·rw[Th c];have j:(k==3)=true:=by simp[c]
  go_in;go_wp2_with fail;refine Qm (A8 l a f n _) ?_;intro p m;go_wp2;go_ret;exact⟨rfl,(Bu _ _ _).trans (m.mono Fr)⟩
 rw[Pk c];have j:(k==3)=false:=by simp[c]
 go_in;go_wp2;go_ret;exact⟨rfl,Bu _ _ _⟩
def Bcc(l:TI)(a:TA)(f:Nat)(k n:Int)(w:TW):Calls prog 224 #[.agg #[.s a l.length f,.s ya yn yc],.agg #[.i k,.i n]] w fun e h=>e=.r (.bool (Tr.settledB l k n))/\Bl w h:=by
 unfold Tr.settledB;by_cases b:k=0
 ·rw[Th (.inl b)];have g:(k==0)=true:=by simp[b]
  go_in;go_wp2;go_ret;exact⟨rfl,Bu _ _ _⟩
 by_cases c:k=2
 ·rw[Th (.inr c)];have g:(k==0)=false:=by simp[b]
  have j:(k==2)=true:=by simp[c]
  go_in;go_wp2;go_ret;exact⟨rfl,Bu _ _ _⟩
 rw[Pk Ck];have g:(k==0)=false:=by simp[b]
 have j:(k==2)=false:=by simp[c]
 go_in;go_wp2_with fail;refine Qm (Rq l a f k n _) ?_;intro p m;go_wp2;go_ret;exact⟨rfl,(Bu _ _ _).trans (m.mono Fr)⟩
def Bam(l:TI)(g z:Nat)(k n b h:Int)(w:TW)(A:l.length<=1000)(B:Dy w g l):Calls prog 118 #[.agg #[.s (.p g) l.length z,.s ya yn yc],.agg #[.i k,.i n],.agg #[.i b,.i h]] w fun e C=>e=.r (.bool (Tr.fitsB l k n b h))/\Bl w C:=by
 unfold Tr.fitsB;by_cases c:k=b/\n=h;·rw[Th c];obtain⟨rfl,rfl⟩:=c;go_in;go_wp2;go_ret;exact⟨rfl,Em _ _ _ _⟩
 rw[Pk c];by_cases j:b=0
 ·rw[Th j];subst j;by_cases v:k=0;·subst v;have f:¬n=h:=fun f=>c ⟨rfl,f⟩;go_in;go_wp2;go_ret;exact⟨rfl,Em _ _ _ _⟩
  clear c;go_in;go_wp2;go_ret;exact⟨rfl,Em _ _ _ _⟩
 rw[Pk j];by_cases m:b=3
 ·rw[Pk Ck];subst m;by_cases q:k=2;·rw[Th q];subst q;go_in;go_wp2;go_ret;exact⟨rfl,Em _ _ _ _⟩
  rw[Pk q];by_cases t:k=3;·rw[Th t];subst t;have f:¬n=h:=fun f=>c ⟨rfl,f⟩;go_in;go_wp2_with fail;refine Qm (W2 l g z n h _ A (B.below (Em _ _ _ _))) ?_;intro F D;go_wp2;go_ret;exact⟨rfl,(Em _ _ _ _).trans (D.mono Fr)⟩
  rw[Pk t];have G:(k==2)=false:=by simp[q]
  have I:(k==3)=false:=by simp[t]
  go_in;go_wp2;go_ret;exact⟨rfl,Em _ _ _ _⟩
 rw[Th m];have J:(b==0)=false:=by simp[j]
 have K:(b != 3)=true:=by simp[m]
 by_cases v:k=b;·subst v;have f:¬n=h:=fun f=>c ⟨rfl,f⟩;go_in;go_wp2;go_ret;exact⟨rfl,Em _ _ _ _⟩
 clear c j m;go_in;go_wp2;go_ret;exact⟨rfl,Em _ _ _ _⟩
variable {ya:Option Addr}{yn yc:Nat}
def Tr.within(l:TI)(a b:Int):Bool:=(a==b) || Tr.below l a b
def Pb(l:TI)(g c:Nat)(a b:Int)(w:TW)(m:l.length<=1000)(q:Dy w g l):Calls prog 258 #[.agg #[.s (.p g) l.length c,.s ya yn yc],.i a,.i b] w fun e t=>e=.r (.bool (Tr.within l a b))/\Bl w t:=by
 have f:Bl w (w.alloc (O2 (.p g) l.length c ya yn yc)):=QN _;unfold Tr.within;by_cases h:a=b;·subst h;rw[beq_self_eq_true,Bool.true_or];have j:(a==a)=true:=Hd;go_in;go_wp2;go_ret;exact⟨rfl,f⟩
 have j:(a==b)=false:=by simp[h]
 rw[j,Bool.false_or];generalize v:Tr.below l a b=r;have z:=Bc v;go_in;go_wp2_with fail;refine(W2 l g c a b _ m (q.below f)).mono ?_;rw[Ba z];rintro e B ⟨rfl,A⟩;go_wp2;go_ret;exact⟨rfl,f.trans (A.mono Hd)⟩
def U9(w:TW)(o b c e:Obj):Bl w ((((w.alloc o).alloc b).alloc c).alloc e):=(Em w o b c).alloc Fr _
def Ai(w:TW)(b c e f:Obj):((((w.alloc b).alloc c).alloc e).alloc f).heap[w.heap.size]?=some b/\((((w.alloc b).alloc c).alloc e).alloc f).heap[w.heap.size+1]?=some c/\((((w.alloc b).alloc c).alloc e).alloc f).heap[w.heap.size+1+1]?=some e/\((((w.alloc b).alloc c).alloc e).alloc f).heap[w.heap.size+1+1+1]?=some f:=by
 refine⟨?_,?_,?_,?_⟩
 ·rw[Br2 _ _ _ (by first|(simp;done)|(simp;omega)),Br2 _ _ _ (by first|(simp;done)|(simp;omega)),Br2 _ _ _ (by first|(simp;done)|(simp;omega))];exact Be w b
 ·rw[Br2 _ _ _ (by first|(simp;done)|(simp;omega)),Br2 _ _ _ (by first|(simp;done)|(simp;omega))];simpa using Be (w.alloc b) c
 ·rw[Br2 _ _ _ (by first|(simp;done)|(simp;omega))];simpa using Be ((w.alloc b).alloc c) e
 simpa using Be (((w.alloc b).alloc c).alloc e) f
def stay{w s:TW}{k:Nat}{o:Obj}(b:Bl w s)(h:w.heap[k]?=some o):s.heap[k]?=some o:=(b.block k (Sp h)).trans h
def Tr.given:List Int:=[-1,0,1,1,1,1,1]
def Tr.tree(cs:List Rd.Cls):List Int:=Tr.given++cs.map Rd.Cls.above
def Ie(b:List Rd.Cls):(Tr.tree b).length=7+b.length:=by simp[Tr.tree,Tr.given];omega
def Tr.fvals(l:List (Rd.Cls × Value)):List Value:=List.replicate 7 (.slice none 0 0)++l.map Prod.snd
def Tryz.infoTys:(prog.info? 105).map (fun i=>(i.zero,i.size,i.bytes))=some (some (.s none 0 0),1,24):=Lt
def Bi9(w:TW)(b g:Nat)(t:TypeId)(c:w.heap.size=g)(e:b<=g)(u:TX):(w.alloc (.cells #[u,u,u,u,u,u,u] t)).ownsRow b t 1 (.s (.p g) 7 7) 7 (List.replicate 7 u) :=
 ⟨rfl,.inr ⟨g,7,#[u,u,u,u,u,u,u],rfl,e,by rw[<- c];exact Be w _,Ck,Pf,rfl,rfl⟩⟩
def Kp.set2{j:TypeId}{b i t:Nat}{w:TW}{O:Nat}{G:Array Value}(h:w.heap[O]?=some (.cells G j (0,0)))(u p:TX):Kp (some j) b w ((w.setCell (.a O i) u).setCell (.a O t) p):=by
 intro k q c f l m;have s:=Kp.set (b:=b) (i:=i) h u k q c f l m;rw[Brk _ _ _ _ ?_];exact s;intro f;simp only at f;subst f;rw[l]at h;simp at h;exact m (by rw[h.2])
def lenOf:TX->Nat | .slice _ n _=>n | _=>0
def Bof(w:TW)(b g:Nat)(u v:TX)(t:TypeId)(c:w.heap.size=g)(e:b<=g):(w.alloc (.cells #[u,v] t)).ownsRow b t 1 (.s (.p g) 2 2) 2 [u,v] :=
 ⟨rfl,.inr ⟨g,2,#[u,v],rfl,e,by rw[<- c];exact Be w _,Ck,Pf,rfl,rfl⟩⟩
def Cf{u b n:Nat}{j:TypeId}{a:TA}{O c:Nat}{e:TV}{w:TW}(h:w.ownsRow u j b (.s a O c) n e)(t:0<n):∃g,a=some ⟨g,0,none⟩/\g<w.heap.size/\u<=g/\∀f,f<e.length->w.cell? (.a g f)=e[f]?:=by
 obtain⟨v,⟨_,z⟩|⟨g,A,B,i,p,l,C,D,F,q⟩⟩:=h
 ·omega
 simp only[Value.slice.injEq]at i;refine⟨g,i.1,Sp l,p,fun f G=>?_⟩;rw[Bb l,<- q,Bs0,Th Ck];simp
def Nm(l:List (Rd.Cls×Value))(k:Nat)(h:k<l.length):(Jt l)[k*2]?=some (.i l[k].1.above)/\(Jt l)[k*2+1]?=some l[k].2/\k*2+1<(Jt l).length:=by
 induction l generalizing k with
 | nil=>simp at h
 | cons x r ih =>
  cases k with
  | zero=>simp[Jt]
  | succ j =>
   have b:j<r.length:=by simpa using h
   obtain⟨p,q,z⟩:=ih j b;have e:Jt (x::r)=.i x.1.above::x.2::Jt r:=by simp[Jt]
   rw[e,show (j+1)*2=j*2+1+1 by omega];refine⟨by simpa using p,by simpa using q,Fr⟩
def Sf(G V:TA)(n1 c1 Y c2 b:Nat)(l:List (Rd.Cls×Value))(w:TW)(hl:l.length<=6)(hc:Fh w b (.s G n1 c1) l):Calls prog 69 #[.agg #[.s G n1 c1,.s V Y c2]] w fun e w' => ∃g c0 ya yn yc,e=.r (.agg #[.s (.p g) (Tr.tree (l.map Prod.fst)).length c0,.s ya yn yc])/\Dy w' g (Tr.tree (l.map Prod.fst))/\w'.ownsRow w.heap.size 105 1 (.s ya yn yc) (7+l.length) (Tr.fvals l)/\w.heap.size<=g/\Bl w w':=by
 obtain⟨xa,xc,a7⟩:=Bh hc.1;simp only[Value.slice.injEq]at a7;obtain⟨rfl,c6,rfl⟩:=a7;subst c6;obtain⟨i0,I,a8,a9,b0⟩:=Bsa Tryz.infoInt;obtain⟨j0,t,c7,c8,c9⟩:=Bsa Tryz.infoTys;have g2:∀w:TW,(Instr.makeSlice 126 (.i 7) (.i 7)).run prog w=.ok (.s (.p w.heap.size) 7 7) (w.alloc (O3 none 0 0 none 0 0 none 0 0 none 0 0 none 0 0 none 0 0 none 0 0)):=fun _=>Lt;go_in;go_wp2
 go_loopw [3] (fun v wr=>∃k:Nat,2<=k/\k<=7/\wr.ownsRow (w.heap.size+1+1) 3 1 v k ((Tr.given.take k).map (Value.int .i64))/\lenOf v=k/\Below (w.heap.size+1+1) ((w.alloc (O1 G l.length c1 V Y c2)).alloc (O2 none 0 0 none 0 0)) wr)
  (fun v _=>7-lenOf v)
 case atStart=>
  refine⟨2,Ck,Ck,?_,rfl,(Brm _ _).alloc Hd _⟩;exact Bof ((w.alloc (O1 G l.length c1 V Y c2)).alloc (O2 none 0 0 none 0 0)) (w.heap.size+1+1) (w.heap.size+1+1) (.i (-1)) (.i 0) 3 Hd (Bru _)
 case round=>
  obtain⟨k,d0,g3,c,d6,h⟩:=hrel;obtain⟨va,vc,rfl⟩:=Bh c;clear d6;have Z:=h.size;simp at Z;by_cases B:k<7
  ·go_wp2_with (at_builtin;refine Br3 _ rfl _ _ 26 rfl (w.heap.size+1+1) 3 i0 _ 1 8 Bta I a8 a9 b0 rfl Fm _ _ _ rfl (c.alloc _) ⟨wr.heap.size,0,none⟩ 1 1 [.i 1] rfl rfl ?c1 ?c2 ?c3 ?c4 ?c5 ?_)
   case c1=>exact Dh _ _ _ _ rfl
   case c2=>intro u m;simp at m;subst m;rfl
   case c3=>unfold maxLen;omega
   case c4=>omega
   case c5=>simp;omega
   intro v' J C z _;obtain⟨d7,d8,rfl⟩:=Bh C;have a0:J.ownsRow (w.heap.size+1+1) 3 1 (.s d7 (k+1) d8) (k+1) ((Tr.given.take (k+1)).map (Value.int .i64)):=by
    have e:(Tr.given.take (k+1))=Tr.given.take k++[1]:=by
     match k,d0,B with
     | 2,_,_=>rfl
     | 3,_,_=>rfl
     | 4,_,_=>rfl
     | 5,_,_=>rfl
     | 6,_,_=>rfl
    rw[e,Bse];simpa using C
   have K:=(h.alloc Ck (O4 1)).grown z Fr (fun j t=>(c.lt j t).1);clear z c C h;go_wp2;go_roundw
   case rel=>exact⟨k+1,Ck,Ck,a0,rfl,K⟩
   case measure=>simp[lenOf];omega
  obtain rfl:k=7:=Ck;have hB:Bl w wr:=(Bu w _ _).trans (h.mono Ck);have a4:=(h.block w.heap.size Ck).trans (Cb w _ _);have b1:=(Br2 wr (O3 none 0 0 none 0 0 none 0 0 none 0 0 none 0 0 none 0 0 none 0 0) _ (Sp a4)).trans a4;have A:=Bb b1 0;simp at A;have b2:=h.alloc Ck (O3 none 0 0 none 0 0 none 0 0 none 0 0 none 0 0 none 0 0 none 0 0);have q:(wr.alloc (O3 none 0 0 none 0 0 none 0 0 none 0 0 none 0 0 none 0 0 none 0 0)).ownsRow (w.heap.size+1+1) 105 1 (.s (.p wr.heap.size) 7 7) 7 (List.replicate 7 (.s none 0 0)):=Bi9 wr _ _ _ rfl Ck _;have b3:=c.alloc (O3 none 0 0 none 0 0 none 0 0 none 0 0 none 0 0 none 0 0 none 0 0);clear c h;go_wp2
  go_loopw [3,4,18] (fun v u i L=>∃k:Nat,k<=l.length/\i=.i k/\L.ownsRow (w.heap.size+1+1) 3 1 v (7+k) ((Tr.given++((l.map Prod.fst).take k).map Rd.Cls.above).map (Value.int .i64)) /\
    L.ownsRow (w.heap.size+1+1) 105 1 u (7+k) (List.replicate 7 (.s none 0 0)++(l.map Prod.snd).take k) /\
    Below (w.heap.size+1+1) ((w.alloc (O1 G l.length c1 V Y c2)).alloc (O2 none 0 0 none 0 0)) L)
   (fun _ _ i _=>l.length-(intOf i).toNat)
  case atStart=>exact⟨0,Ck,rfl,by simpa[Tr.given] using b3,by simpa using q,b2⟩
  case round=>
   clear b3 b2 hB a4 b1 A Z q;obtain⟨k,hk,rfl,c,q,h⟩:=hrel;obtain⟨va,vc,rfl⟩:=Bh c;obtain⟨za,zc,rfl⟩:=Bh q;have Z:=h.size;simp at Z;have hB:Bl w wr:=(Bu w _ _).trans (h.mono Ck);by_cases B:k<l.length
   ·obtain⟨g,hg,b4,_,D⟩:=Cf (Dc hc.1 (Kp.of_below (e:=none) hB) Fm) Ck;obtain⟨e1,e2,e3⟩:=Nm l k B;have A:=D (k*2) Ck;have N:=D (k*2+1) Ck;rw[e1]at A;rw[e2]at N;obtain⟨O,Q,m⟩:=Bh (hc.2 _ (Brn B));rw[m]at N;generalize b5:l[k].1.above=F at *;have d9:Hid (List.map Rd.Cls.above [l[k].1]=[F]):=by unfold Hid;simp[b5]
    have HA:Hid ((l.map Prod.fst).take (k+1)=(l.map Prod.fst).take k++[l[k].1]):=by
     unfold Hid;rw[Bss (by simpa using B)];simp
    have HB:Hid ((l.map Prod.snd).take (k+1)=(l.map Prod.snd).take k++[.s O l[k].1.fields.length Q]):=by
     unfold Hid;rw[Bss (by simpa using B),<- m];simp
    generalize l[k].1.fields.length=fl at *;clear D e1 e2 e3 b5 m;subst hg;generalize b6:((Tr.given++((l.map Prod.fst).take k).map Rd.Cls.above).map (Value.int .i64))=xs at c;have f2:=Bc b6;clear b6;generalize b7:(List.replicate 7 (Value.slice none 0 0)++(l.map Prod.snd).take k)=ys at q;have f3:=Bc b7;clear b7;go_wp2_with (at_builtin;refine Br3 _ rfl _ _ 26 rfl (w.heap.size+1+1) 3 i0 _ 1 8 Bta I a8 a9 b0 rfl Fm _ _ _ rfl ((c.alloc _).alloc _) ⟨wr.heap.size+1,0,none⟩ 1 1 [.i F] rfl rfl ?d1 ?d2 ?d3 ?d4 ?d5 ?_)
    case d1=>exact Dh _ _ _ _ Hd
    case d2=>intro u m;simp at m;subst m;rfl
    case d3=>unfold maxLen;omega
    case d4=>omega
    case d5=>simp;omega
    intro v' J C z _;have a0:J.ownsRow (w.heap.size+1+1) 3 1 v' (7+(k+1)) ((Tr.given++((l.map Prod.fst).take (k+1)).map Rd.Cls.above).map (Value.int .i64)):=by
     have e:((Tr.given++((l.map Prod.fst).take (k+1)).map Rd.Cls.above).map (Value.int .i64))=((Tr.given++((l.map Prod.fst).take k).map Rd.Cls.above).map (Value.int .i64))++[.i F]:=by
      rw[Ba HA,Bse (f:=Rd.Cls.above),Ba d9];simp only[Bse,Bsi];rfl
     rw[e,Ba f2];exact C
    have K:=((h.alloc Ck _).alloc Fr _).grown z Fr (fun j t=>(c.lt j t).1);have a3:=Dc ((q.alloc (O5 F O fl Q)).alloc (O4 F)) (Kp.of_grown (b:=w.heap.size+1+1) z ((c.alloc _).alloc _)) Fm;have b8:J.heap[wr.heap.size]?=some (O5 F O fl Q):=Kp.of_grown (b:=0) z ((c.alloc _).alloc _) _ _ _ (Bsb _) ((Br2 _ _ _ Hd).trans (Be wr _)) Fm;have y1:=Bb b8 1;have ly:=Sp b8;simp at y1;clear z c C h q;have f4:=K.size;simp at f4;go_wp2_with (at_builtin;refine Br3 _ rfl _ _ 126 rfl (w.heap.size+1+1) 105 j0 _ 1 24 underlying126 t c7 c8 c9 rfl Fm _ _ _ rfl (a3.alloc _) ⟨J.heap.size,0,none⟩ 1 1 [.s O fl Q] rfl rfl ?d1 ?d2 ?d3 ?d4 ?d5 ?_)
    case d1=>exact Dh _ _ _ _ Hd
    case d2=>intro u m;simp at m;subst m;rfl
    case d3=>unfold maxLen;omega
    case d4=>omega
    case d5=>simp;omega
    intro f5 L b9 a5 _;have f6:=Dc (a0.alloc (O6 O fl Q)) (Kp.of_grown (b:=w.heap.size+1+1) a5 (a3.alloc _)) Fm;have f7:L.ownsRow (w.heap.size+1+1) 105 1 f5 (7+(k+1)) (List.replicate 7 (.s none 0 0)++(l.map Prod.snd).take (k+1)):=by
     rw[Ba HB,<- Bsi,Ba f3];exact b9
    have f8:=(K.alloc Ck _).grown a5 Fr (fun j t=>(a3.lt j t).1);clear a5 a0 a3 b9 K;go_wp2;go_roundw
    case rel=>exact⟨k+1,Ck,Mg,f6,f7,f8⟩
    case measure=>simp[intOf];omega
   obtain rfl:k=l.length:=Ck;have a6:=(h.block (w.heap.size+1) Ck).trans (Bx w _ _);obtain⟨A,N⟩:=cl2 a6;obtain⟨f0,f1⟩:=fr2 a6;simp at A N;have ht:((l.map Prod.fst).take l.length)=l.map Prod.fst:=Bs7 Hd;rw[ht]at c;have f9:((l.map Prod.snd).take l.length)=l.map Prod.snd:=Bs7 Hd;rw[f9]at q;obtain⟨g,g0,b4,g4,D⟩:=Cf c Ck;subst g0;have HC:=Bc D;clear D;go_wp2_with fail;refine tb (.agg #[.s (.p g) (7+l.length) vc,.s za (7+l.length) zc]) (by simp[results,results69,go_sem,A,N]) ?_;refine⟨g,vc,za,7+l.length,zc,by rw[Ie,Br1],⟨by simpa using b4,fun i I=>?_⟩,?_,Ck,(hB.setCell Hd _).setCell Hd _⟩
   ·rw[Brr (w:=wr) ((Brk _ _ _ g Fr).trans (Brk wr _ _ g Fr))];have g1:i<((Tr.tree (l.map Prod.fst)).map (Value.int .i64)).length:=by simpa using I
    have h2:=Ba HC i g1;have h3:((Tr.tree (l.map Prod.fst)).map (Value.int .i64))[i]?=some (.i ((Tr.tree (l.map Prod.fst)).getD i 0)):=by
     rw[Bsf,Vm,Brl I];rfl
    rw[h2];exact h3
   exact Dc (D6 q Ck) (Kp.set2 a6 _ _) Fm
variable {ya:Option Addr}{yn yc:Nat}
def Fu(l:TP)(k:Nat)(h:k<l.length):(Bp l)[k*2]?=some (.i l[k].1)/\(Bp l)[k*2+1]?=some (.i l[k].2)/\k*2+1<(Bp l).length:=by
 induction l generalizing k with
 | nil=>simp at h
 | cons x r ih =>
  cases k with
  | zero=>simp[Bp]
  | succ j =>
   have b:j<r.length:=by simpa using h
   obtain⟨p,q,z⟩:=ih j b;have e:Bp (x::r)=.i x.1::.i x.2::Bp r:=by simp[Bp]
   rw[e,show (j+1)*2=j*2+1+1 by omega];refine⟨by simpa using p,by simpa using q,Fr⟩
def Of{z:TI}{x:Int×Int}{r:TP}:Tr.allPlainB z (x::r)=(Tr.plainB z x.1 x.2&&Tr.allPlainB z r):=by simp[Tr.allPlainB]
def Tl(l:TI)(a:TA)(h:Nat)(I:TA)(J K b:Nat)(c:TP)(w:TW)(a5:c.length<=1000)(L:Cq w b (.s I J K) c):Calls prog 158 #[.agg #[.s a l.length h,.s ya yn yc],.s I J K] w fun e w'=>e=.r (.bool (Tr.allPlainB l c))/\Bl w w':=by
 obtain⟨xa,xc,N⟩:=Bh L;simp only[Value.slice.injEq]at N;obtain⟨rfl,a0,rfl⟩:=N;subst a0;generalize f:Tr.allPlainB l c=r;have p:Hid (Tr.allPlainB l (c.drop 0)=r):=by unfold Hid;simpa using f
 clear f;have O:Bl w (w.alloc (O2 a l.length h ya yn yc)):=QN _;have Q:=Be w (O2 a l.length h ya yn yc);go_in;go_wp2
 go_loopw [9] (fun i wr=>∃k:Nat,k<=c.length/\i=.i k/\Hid (Tr.allPlainB l (c.drop k)=r)/\Bl w wr /\
   wr.heap[w.heap.size]?=some (O2 a l.length h ya yn yc))
  (fun i _=>c.length-(intOf i).toNat)
 case atStart=>exact⟨0,Ck,rfl,p,O,Q⟩
 case round=>
  clear O Q p;obtain⟨k,hk,rfl,p,j,z⟩:=hrel;have V:=j.size;by_cases Y:k<c.length
  ·obtain⟨g,hg,a6,a1,C⟩:=Cf (Dc L (Kp.of_below (e:=none) j) Fm) Ck;obtain⟨Z,e2,e3⟩:=Fu c k Y;have x0:=C (k*2) Ck;have x1:=C (k*2+1) Ck;rw[Z]at x0;rw[e2]at x1;have hd:c.drop k=c[k]::c.drop (k+1):=Brj Y;have f:=Ba p;rw[hd,Of]at f;generalize a2:c[k].1=A at *;generalize a3:c[k].2=B at *;obtain⟨c0,c1⟩:=cl2 z;have lx:=Sp z;simp at c0 c1;clear C Z e2 e3 a2 a3 hd a1;subst hg;cases m:Tr.plainB l A B with
   | true =>
    have q:Hid (Tr.allPlainB l (c.drop (k+1))=r):=by unfold Hid;rw[<- f,m];simp
    have D:=Bc m;clear m f;go_wp2_with fail;refine(Rq l a h A B _).mono ?_;rw[Ba D];rintro e F ⟨rfl,t⟩;have G:Bl w F:=(j.alloc V _).trans (t.mono Fr);have a4:=stay t ((Br2 wr (O7 A B) _ lx).trans z);clear t j z c0 c1 x0 x1 lx;go_wp2;go_roundw
    case rel=>exact⟨k+1,Ck,Mg,q,G,a4⟩
    case measure=>simp[intOf];omega
   | false =>
    have v:r=false:=by rw[<- f,m];simp
    have q:=Bc v;have D:=Bc m;clear m f v;go_wp2_with fail;refine(Rq l a h A B _).mono ?_;rw[Ba D];rintro e F ⟨rfl,t⟩;have G:Bl w F:=(j.alloc V _).trans (t.mono Fr);go_wp2;go_ret;exact⟨by rw[Ba q];rfl,G⟩
  have v:r=true:=by rw[<- Ba p,Brq Ck];rfl
  have q:=Bc v;clear v;go_wp2;go_ret;exact⟨by rw[Ba q];rfl,j⟩
def Tr.inCl(l:TI):Nat->List Rd.Cls->Int × Int
 | _,[]=>(0,0)
 | k,c::r=>if 7+(k:Int)<=c.above then (3,7+(k:Int)) else if Tr.allPlainB l c.fields=false then (3,7+(k:Int)) else Tr.inCl l (k+1) r
def Bcd(L Z:TA)(n1 v n2 c2 b:Nat)(l:List (Rd.Cls×Value))(w:TW)(hl:l.length<=6)(b6:∀p∈l,p.1.fields.length<=1000)(hc:Fh w b (.s L n1 v) l):Calls prog 105 #[.agg #[.s L n1 v,.s Z n2 c2]] w fun e w' => e=.r (.agg #[.i (Tr.inCl (Tr.tree (l.map Prod.fst)) 0 (l.map Prod.fst)).1,.i (Tr.inCl (Tr.tree (l.map Prod.fst)) 0 (l.map Prod.fst)).2,.i 0])/\Bl w w':=by
 obtain⟨xa,xc,a7⟩:=Bh hc.1;simp only[Value.slice.injEq]at a7;obtain⟨rfl,b7,rfl⟩:=a7;subst b7;generalize ht:Tr.tree (l.map Prod.fst)=T;generalize c:Tr.inCl T 0 (l.map Prod.fst)=r;have HT:=Bc ht;have I:Hid (Tr.inCl T 0 ((l.map Prod.fst).drop 0)=r):=by unfold Hid;simpa using c
 clear c ht;have a8:=Bu w (O1 L l.length v Z n2 c2) (O8 0 0 0);go_in;go_wp2_with fail;refine(Sf L Z l.length v n2 c2 b l _ hl (hc.kp (Kp.of_below (e:=none) a8) Fm Fm)).mono ?_;rw[Ba HT];rintro e N ⟨g,B,ya,yn,yc,rfl,c6,b8,hg,O⟩;clear b8;have a0:=a8.trans (O.mono Fr);have C:=stay O (Cb w _ _);have h:=stay O (Bx w _ _);have b9:=Sp h;have J:=Bb C 0;simp at J;have c7:=Sp C;have a9:=Be N (O2 (.p g) T.length B ya yn yc);have b0:Bl w (N.alloc (O2 (.p g) T.length B ya yn yc)):=a0.alloc a0.size _;have b1:=(Br2 N (O2 (.p g) T.length B ya yn yc) _ b9).trans h;clear C h a0 O;go_wp2
 go_loopw [12] (fun i wr=>∃k:Nat,k<=l.length/\i=.i k/\Hid (Tr.inCl T k ((l.map Prod.fst).drop k)=r)/\Bl w wr /\
   wr.heap[N.heap.size]?=some (O2 (.p g) T.length B ya yn yc)/\wr.heap[w.heap.size+1]?=some (O8 0 0 0))
  (fun i _=>l.length-(intOf i).toNat)
 case atStart=>exact⟨0,Ck,rfl,I,b0,a9,b1⟩
 case round=>
  clear b0 a9 b1 I J;obtain⟨k,hk,rfl,I,z,K,h⟩:=hrel;have b2:=z.size;have b3:=Sp K;have a3:=Sp h;by_cases Q:k<l.length
  ·have a4:=hc.kp (Kp.of_below (e:=none) z) Fm Fm;obtain⟨g',c3,c8,c4,a5⟩:=Cf a4.1 Ck;obtain⟨e1,e2,e3⟩:=Nm l k Q;have J:=a5 (k*2) Ck;have x1:=a5 (k*2+1) Ck;rw[e1]at J;rw[e2]at x1;have b4:=b6 _ (Brn Q);have V:=a4.2 _ (Brn Q);obtain⟨D,F,hu⟩:=Bh V;rw[hu]at x1 V;have hd:(l.map Prod.fst).drop k=l[k].1::(l.map Prod.fst).drop (k+1):=by
    rw[Brj (by simpa using Q)];simp
   have c:=Ba I;rw[hd,Tr.inCl]at c;generalize c5:l[k].1=f at *;obtain⟨c0,v⟩:=cl2 K;simp at c0 v;clear a5 e1 e2 e3 c5 hd c4 hu a4;subst c3;by_cases h1:7+(k:Int)<=f.above;·rw[Th h1]at c;have A:=Bc c;clear c;obtain⟨j,m,q⟩:=cl3 h;obtain⟨f0,f1,f2⟩:=fr3 h;simp at j m q;go_wp2;refine tb (.agg #[.i 3,.i (7+(k:Int)),.i 0]) (by simp[results,Bwg,go_sem,j,m,q,a3]) ?_;exact⟨by rw[<- Ba A],(((z.setCell Hd _).setCell Hd _).setCell Hd _).alloc Fr _⟩
   rw[Pk h1]at c;cases G:Tr.allPlainB T f.fields with
   | true =>
    rw[G,Pk Hd]at c;have A:=Bc c;have HP:=Bc G;clear c G;go_wp2_with fail;refine(Tl T (.p g) B D f.fields.length F b f.fields _ b4 (V.kp (Kp.alloc (e:=none) _ _) Fm)).mono ?_;rw[Ba HP];rintro e w2 ⟨rfl,t⟩;have a6:Bl w w2:=(z.alloc b2 _).trans (t.mono Fr);have b5:=stay t ((Br2 wr (O5 f.above D f.fields.length F) _ b3).trans K);have Y:=stay t ((Br2 wr (O5 f.above D f.fields.length F) _ a3).trans h);clear t z K h J x1 c0 v;go_wp2;go_roundw
    case rel=>exact⟨k+1,Ck,Mg,A,a6,b5,Y⟩
    case measure=>simp[intOf];omega
   | false =>
    rw[G,Th rfl]at c;have A:=Bc c;have HP:=Bc G;clear c G;go_wp2_with fail;refine(Tl T (.p g) B D f.fields.length F b f.fields _ b4 (V.kp (Kp.alloc (e:=none) _ _) Fm)).mono ?_;rw[Ba HP];rintro e w2 ⟨rfl,t⟩;have a6:Bl w w2:=(z.alloc b2 _).trans (t.mono Fr);have b5:=stay t ((Br2 wr (O5 f.above D f.fields.length F) _ b3).trans K);have Y:=stay t ((Br2 wr (O5 f.above D f.fields.length F) _ a3).trans h);obtain⟨j,m,q⟩:=cl3 Y;obtain⟨f0,f1,f2⟩:=fr3 Y;simp at j m q;go_wp2;refine tb (.agg #[.i 3,.i (7+(k:Int)),.i 0]) (by simp[results,Bwg,go_sem,j,m,q]) ?_;exact⟨by rw[<- Ba A],((a6.setCell Hd _).setCell Hd _).setCell Hd _⟩
  have C:r=(0,0):=by rw[<- Ba I,Brq Fr];rfl
  have A:=Bc C.symm;clear C;obtain⟨j,m,q⟩:=cl3 h;obtain⟨f0,f1,f2⟩:=fr3 h;simp at j m q;go_wp2;refine tb (.agg #[.i 0,.i 0,.i 0]) (by simp[results,Bwg,go_sem,j,m,q]) ?_;exact⟨by rw[<- Ba A],((z.setCell Hd _).setCell Hd _).setCell Hd _⟩
def Ot{α:Type}(P:α->Prop)(f:Rd.St->α×Rd.St)(h:∀t,P (f t).1)(n:Nat)(t:Rd.St):∀x∈(Rd.rep f n t).1,P x:=by
 induction n with
 | zero=>simp[Rd.rep]
 | succ k ih =>
  intro x b;simp only[Rd.rep,Bs1,Bth]at b;rcases b with b|b
  ·exact ih x b
  rw[b];exact h _
def Aw(s:TB):(Rd.read s).1.classes.length<=6/\∀c∈(Rd.read s).1.classes,c.fields.length<=1000:=by
 unfold Rd.read
 split
 ·simp
 split
 ·simp
 simp only[Rd.fil];refine⟨?_,?_⟩
 ·rw[Rd.rep_len];have:=Rd.cn_bd s 0 6 (Rd.ex s 77 (Rd.ex s 83 ⟨0,false⟩)) Ck;omega
 refine Ot _ _ (fun t=>?_) _ _;simp only[Rd.cls];rw[Uq];have:=Rd.cn_bd s 0 4 (Rd.nx s t).2 Ck;omega
def Nz(w:TW)(b c e:Obj):(((w.alloc b).alloc c).alloc e).heap[w.heap.size]?=some b/\(((w.alloc b).alloc c).alloc e).heap[w.heap.size+1]?=some c/\(((w.alloc b).alloc c).alloc e).heap[w.heap.size+1+1]?=some e:=by
 refine⟨?_,?_,?_⟩
 ·rw[Br2 _ _ _ (by first|(simp;done)|(simp;omega)),Br2 _ _ _ (by first|(simp;done)|(simp;omega))];exact Be w b
 ·rw[Br2 _ _ _ (by first|(simp;done)|(simp;omega))];simpa using Be (w.alloc b) c
 simpa using Be ((w.alloc b).alloc c) e
def Bg{w:TW}{k:Nat}{o:Obj}(h:w.heap[k]?=some o)(b:Obj):(w.alloc b).heap[k]?=some o:=(Br2 w b k (Sp h)).trans h
namespace Tr
def Ok (l:TI):Prop:=0<l.length/\l.getD 0 0 = -1/\∀i,0<i->i<l.length->0<=l.getD i 0/\l.getD i 0<(i:Int)
def itr (l:TI):Nat->Int->Int
 | 0,a=>a
 | k+1,a=>itr l k (ov l a)
def itr_add(l:TI)(i j:Nat)(a:Int):itr l (i+j) a=itr l j (itr l i a):=by
 induction i generalizing a with
 | zero=>simp[itr]
 | succ k ih=>rw[show k+1+j=(k+j)+1 by omega];simp[itr,ih]
def Bjt(l:TI)(a:Int)(h:a<0):ov l a = -1:=by simp[ov,h]
def Bf5(l:TI)(k:Nat):itr l k (-1) = -1:=by
 induction k with
 | zero=>rfl
 | succ j ih=>simp[itr,Bjt l (-1) Ck,ih]
def Bcf{z:TI}(h:Ok z){a:Int}(c:0<=a):ov z a<a/\-1<=ov z a:=by
 unfold ov;rw[Pk Ck]
 split
 ·omega
 by_cases b:a.toNat=0;·rw[b,h.2.1];omega
 have:=h.2.2 a.toNat Ck Ck;omega
def Bdb{z:TI}(h:Ok z){a:Int}(b:0<a)(c:a<(z.length:Int)):0<=ov z a:=by
 unfold ov;rw[Pk Ck,Pk Ck];exact(h.2.2 a.toNat Ck Ck).1
def itr_down{z:TI}(h:Ok z)(m:Nat)(a:Int)(b:0<=itr z m a):itr z m a+(m:Int)<=a:=by
 induction m generalizing a with
 | zero=>simp[itr]
 | succ k ih =>
  simp only[itr]at b ⊢;have e:=ih (ov z a) b;by_cases c:0<=a;·have:=Bcf h c;omega
  rw[Bjt z a Ck,Bf5]at b;omega
def Blv(l:TI)(c:Int)(n:Nat)(b:Int)(p:0<=c):upTo l c n b=true<->∃j,j<n/\itr l j b=c:=by
 induction n generalizing b with
 | zero=>simp[upTo]
 | succ k ih =>
  unfold upTo;by_cases g:b = -1
  ·rw[Th g]
   constructor
   ·intro h;cases h
   rintro ⟨j,_,m⟩;rw[g,Bf5]at m;omega
  rw[Pk g];by_cases f:b=c;·rw[Th f];exact⟨fun _=>⟨0,Ck,f⟩,fun _=>rfl⟩
  rw[Pk f,ih]
  constructor
  ·rintro ⟨j,m,e⟩;exact⟨j+1,Ck,e⟩
  rintro ⟨j,m,e⟩;cases j with
  | zero=>exact absurd e f
  | succ i=>exact⟨i,Ck,e⟩
def below_iff{z:TI}(h:Ok z){a B:Int}(c:0<=B)(f:a<(z.length:Int)):below z a B=true<->∃j,itr z (j+1) a=B:=by
 unfold below;rw[Blv z B _ _ c]
 constructor
 ·rintro ⟨j,_,e⟩;exact⟨j,e⟩
 rintro ⟨j,e⟩;have:=itr_down h (j+1) a Ck;exact⟨j,Ck,e⟩
def below_lt{z:TI}(h:Ok z){a B:Int}(c:0<=B)(f:a<(z.length:Int))(g:below z a B=true):B<a:=by
 obtain⟨j,e⟩:=(below_iff h c f).1 g;have:=itr_down h (j+1) a Ck;omega
def Yg{z:TI}(h:Ok z){a B c:Int}(m:0<=B)(p:0<=c)(g:a<(z.length:Int))(q:below z a B=true)(s:below z B c=true):below z a c=true:=by
 have t:=below_lt h m g q;obtain⟨i,e⟩:=(below_iff h m g).1 q;obtain⟨j,f⟩:=(below_iff h p Ck).1 s;refine(below_iff h p g).2 ⟨i+1+j,?_⟩;rw[show i+1+j+1=(i+1)+(j+1) by omega,itr_add,e,f]
def Bei{z:TI}(h:Ok z){a:Int}(c:0<a)(b:a<(z.length:Int)):below z a (ov z a)=true :=
 (below_iff h (Bdb h c b) b).2 ⟨0,rfl⟩
def Bh7{z:TI}(h:Ok z){a B:Int}(f:0<=a)(b:0<=B)(g:a<(z.length:Int))(m:below z a B=true):B=ov z a\/below z (ov z a) B=true:=by
 obtain⟨j,e⟩:=(below_iff h b g).1 m;have p:=Bcf h f;cases j with
 | zero=>left;exact e.symm
 | succ i=>right;exact(below_iff h b Ck).2 ⟨i,e⟩
def fits_iff(l:TI)(k n e m:Int):fitsB l k n e m=true<->(k=e/\n=m)\/e=0\/(e=3/\k=2)\/(e=3/\k=3/\below l n m=true):=by
 unfold fitsB;by_cases f:k=e/\n=m;·rw[Th f];simp[f]
 rw[Pk f];by_cases g:e=0;·rw[Th g];simp[g]
 rw[Pk g];by_cases h:e=3
 ·rw[Pk Ck];by_cases i:k=2;·rw[Th i];simp[h,i]
  rw[Pk i];by_cases p:k=3
  ·rw[Th p]
   constructor
   ·intro j;exact .inr (.inr (.inr ⟨h,p,j⟩))
   rintro (⟨a,b⟩|a|⟨a,b⟩|⟨a,b,c⟩)
   ·exact absurd ⟨a,b⟩ f
   ·exact absurd a g
   ·exact absurd b i
   exact c
  rw[Pk p]
  constructor
  ·intro j;cases j
  rintro (⟨a,b⟩|a|⟨a,b⟩|⟨a,b,c⟩)
  ·exact absurd ⟨a,b⟩ f
  ·exact absurd a g
  ·exact absurd b i
  exact absurd b p
 rw[Th h]
 constructor
 ·intro j;cases j
 rintro (⟨a,b⟩|a|⟨a,b⟩|⟨a,b,c⟩)
 ·exact absurd ⟨a,b⟩ f
 ·exact absurd a g
 ·exact absurd a h
 exact absurd a h
def Arg (l:TI)(k n:Int):Prop:=(k=0/\n=0)\/(k=1/\n=0)\/(k=2/\n=0)\/(k=3/\0<=n/\n<(l.length:Int))\/(k=4/\0<=n/\n<120)
def fits_refl(l:TI)(k n:Int):fitsB l k n k n=true:=(fits_iff l k n k n).2 (.inl ⟨rfl,rfl⟩)
def fits_anti{z:TI}(h:Ok z){k n b c:Int}(g:Arg z k n)(i:Arg z b c)(m:fitsB z k n b c=true)(j:fitsB z b c k n=true):k=b/\n=c:=by
 rcases(fits_iff ..).1 m with e | e|⟨e1,e2⟩|⟨e1,e2,e3⟩
 ·exact e
 ·rcases(fits_iff ..).1 j with f | f|⟨f1,f2⟩|⟨f1,f2,f3⟩
  ·exact⟨f.1.symm,f.2.symm⟩
  ·unfold Arg at g i;omega
  ·omega
  omega
 ·rcases(fits_iff ..).1 j with f | f|⟨f1,f2⟩|⟨f1,f2,f3⟩<;>omega
 rcases(fits_iff ..).1 j with f | f|⟨f1,f2⟩|⟨f1,f2,f3⟩
 ·exact⟨f.1.symm,f.2.symm⟩
 ·omega
 ·omega
 have p:=below_lt h (by unfold Arg at i;omega) (by unfold Arg at g;omega) e3;have g2:=below_lt h (by unfold Arg at g;omega) (by unfold Arg at i;omega) f3;omega
def fits_trans{z:TI}(h:Ok z){k n b c g i:Int}(p:Arg z k n)(q:Arg z b c)(s:Arg z g i)(j:fitsB z k n b c=true)(m:fitsB z b c g i=true):fitsB z k n g i=true:=by
 rcases(fits_iff ..).1 m with ⟨rfl,rfl⟩ | f|⟨f1,f2⟩|⟨f1,f2,f3⟩
 ·exact j
 ·exact(fits_iff ..).2 (.inr (.inl f))
 ·rcases(fits_iff ..).1 j with ⟨rfl,rfl⟩ | e|⟨e1,e2⟩|⟨e1,e2,e3⟩
  ·exact m
  ·omega
  ·omega
  omega
 rcases(fits_iff ..).1 j with ⟨rfl,rfl⟩ | e|⟨e1,e2⟩|⟨e1,e2,e3⟩
 ·exact m
 ·omega
 ·exact(fits_iff ..).2 (.inr (.inr (.inl ⟨f1,e2⟩)))
 refine(fits_iff ..).2 (.inr (.inr (.inr ⟨f1,e2,?_⟩)));exact Yg h (by unfold Arg at q;omega) (by unfold Arg at s;omega) (by unfold Arg at p;omega) e3 f3
def At (l:TI)(b a:Int):Prop:=a=b\/below l b a=true
def fits_ref{z:TI}{a B:Int}:fitsB z 3 a 3 B=true<->At z a B:=by
 rw[fits_iff];unfold At
 constructor
 ·rintro (⟨_,e⟩|e|⟨_,e⟩|⟨_,_,e⟩)
  ·exact .inl e.symm
  ·omega
  ·omega
  exact .inr e
 rintro (e|e)
 ·exact .inl ⟨rfl,e.symm⟩
 exact .inr (.inr (.inr ⟨rfl,rfl,e⟩))
end Tr
namespace Rf
open Go.Proofs.YtpcgnjolfahacaaGreat (Rd.St Rd.nx Rd.cn Rd.ex Rd.ty Rd.tys Rd.cls Rd.codes Rd.hnd Rd.hnds Rd.mp Rd.mps Rd.mth Rd.fil)
def at' (s:TB)(i:Int):Int:=if i<0 then -1 else if (s.length:Int)<=i then -1 else ((s[i.toNat]?.getD 0).toNat:Int)
def cnt (s:TB)(i least most:Int):Int:=if at' s i<least then -1 else if most<at' s i then -1 else at' s i
def rep {α:Type}(f:Int->α × Int):Nat->Int->List α × Int
 | 0,i=>([],i)
 | k+1,i=>if (rep f k i).2<0 then ([],-1) else if (f (rep f k i).2).2<0 then ([],-1) else ((rep f k i).1++[(f (rep f k i).2).1],(f (rep f k i).2).2)
def ty (s:TB)(i:Int):(Int × Int) × Int:=((at' s i,at' s (i+1)),i+2)
def tys (s:TB)(i:Int):Nat->List (Int × Int)
 | 0=>[]
 | k+1=>tys s i k++[(at' s (i+2*(k:Int)),at' s (i+2*(k:Int)+1))]
def cls (s:TB)(i:Int):Rd.Cls × Int :=
 if cnt s (i+1) 0 4<0 then (⟨0,[]⟩,-1) else (⟨at' s i,tys s (i+2) (cnt s (i+1) 0 4).toNat⟩,i+2+2*cnt s (i+1) 0 4)
def hndAt(s:TB)(i:Int):Rd.Hnd:=⟨at' s i,at' s (i+1),at' s (i+2),at' s (i+3)⟩
def hndTo(s:TB)(i:Int):Nat->List Rd.Hnd
 | 0=>[]
 | k+1=>hndTo s i k++[hndAt s (i+1+4*(k:Int))]
def hnds (s:TB)(i:Int):List Rd.Hnd × Int :=
 if cnt s i 0 4<0 then ([],-1) else if (s.length:Int)<i+1+4*cnt s i 0 4 then ([],-1) else (hndTo s i (cnt s i 0 4).toNat,i+1+4*cnt s i 0 4)
def mp (s:TB)(L H i:Int):Rd.Mp × Int :=
 if cnt s (i+1+2*L) 0 H<0 then (⟨0,[],[]⟩,-1)
 else (⟨at' s i,tys s (i+1) L.toNat,tys s (i+2+2*L) (cnt s (i+1+2*L) 0 H).toNat⟩,i+2+2*L+2*cnt s (i+1+2*L) 0 H)
def mps (s:TB)(i L H:Int):List Rd.Mp × Int :=
 if cnt s i 0 64<0 then ([],-1) else rep (mp s L H) (cnt s i 0 64).toNat (i+1)
def codeTo(s:TB)(i:Int):Nat->List Int
 | 0=>[]
 | k+1=>codeTo s i k++[at' s (i+(k:Int))]
structure Mth where
 m:Rd.Mth
 mapsAt:Int
 fin:Int
def mth (s:TB)(i:Int):Mth × Int :=
 let p:=cnt s (i+2) 0 4
 if p<0 then (⟨⟨0,0,[],(0,0),0,0,[],[],[]⟩,0,0⟩,-1)
 else
  let j:=i+3+2*p
  let l:=cnt s (j+2) 0 8
  let h:=cnt s (j+3) 0 8
  let n:=cnt s (j+4) 1 120
  if l<0 then (⟨⟨0,0,[],(0,0),0,0,[],[],[]⟩,0,0⟩,-1)
  else if h<0 then (⟨⟨0,0,[],(0,0),0,0,[],[],[]⟩,0,0⟩,-1)
  else if n<0 then (⟨⟨0,0,[],(0,0),0,0,[],[],[]⟩,0,0⟩,-1)
  else if (s.length:Int)<j+5+n then (⟨⟨0,0,[],(0,0),0,0,[],[],[]⟩,0,0⟩,-1)
  else
   let hs:=hnds s (j+5+n)
   if hs.2<0 then (⟨⟨0,0,[],(0,0),0,0,[],[],[]⟩,0,0⟩,-1)
   else
    let ms:=mps s hs.2 l h
    (⟨⟨at' s i,at' s (i+1),tys s (i+3) p.toNat,(at' s j,at' s (j+1)),l,h,codeTo s (j+5) n.toNat,hs.1,ms.1⟩,hs.2,ms.2⟩,ms.2)
def fil (s:TB):List Rd.Cls × List Mth × Int :=
 if at' s 0≠83 then ([],[],-1)
 else if at' s 1≠77 then ([],[],-1)
 else if cnt s 2 0 6<0 then ([],[],-1)
 else
  let cs:=rep (cls s) (cnt s 2 0 6).toNat 3
  if cs.2<0 then ([],[],-1)
  else if cnt s cs.2 1 6<0 then ([],[],-1)
  else
   let ms:=rep (mth s) (cnt s cs.2 1 6).toNat (cs.2+1)
   if ms.2<0 then ([],[],-1) else (cs.1,ms.1,ms.2)
def Lnk {α β:Type}(g:β->α)(n:Nat)(r:α × Rd.St)(x:β × Int):Prop :=
 (0<=x.2/\x.2<=(n:Int)/\r.1=g x.1/\r.2=⟨x.2.toNat,false⟩)\/((x.2<0\/(n:Int)<x.2)/\r.2.bad=true)
def Vz{F:TB}{c:Int}(b:0<=c)(e:c<(F.length:Int)):Rd.nx F ⟨c.toNat,false⟩=(at' F c,⟨(c+1).toNat,false⟩):=by
 unfold Rd.nx at';rw[Pk Hd,Pk Mc,Pk Ck,Pk Ck];rw[show (c+1).toNat=c.toNat+1 by omega]
def at_out{F:TB}{c:Int}(b:(F.length:Int)<=c):at' F c = -1:=by
 unfold at'
 split
 ·rfl
 rfl
def Uy{F:TB}{c:Int}(b:(F.length:Int)<=c):Rd.nx F ⟨c.toNat,false⟩=(0,⟨c.toNat,true⟩):=by
 unfold Rd.nx;rw[Pk Hd,Th Mc]
def at_bd(s:TB)(i:Int):-1<=at' s i/\at' s i<=255:=by
 unfold at'
 split
 ·omega
 split
 ·omega
 have:=(s[i.toNat]?.getD 0).toNat_lt;omega
def cnt_bd(s:TB)(i a b:Int)(c:-1<=b):-1<=cnt s i a b/\cnt s i a b<=b:=by
 have:=at_bd s i;unfold cnt
 split
 ·omega
 split<;>omega
def Kr{F:TB}{i a b:Int}(h:(F.length:Int)<=i)(c:0<=a):cnt F i a b = -1:=by
 unfold cnt;rw[at_out h,Th Ck]
def Fw(s:TB)(p:Nat):(Rd.nx s ⟨p,true⟩).2.bad=true:=by simp[Rd.nx]
def Df(t:Rd.St)(h:t.bad=true):∃p,t=⟨p,true⟩:=⟨t.pos,by cases t;simp_all⟩
def N7{s:TB}{i:Int}(b:0<=i)(c:i<=(s.length:Int)):Lnk id s.length (Rd.nx s ⟨i.toNat,false⟩) (at' s i,i+1):=by
 by_cases h:i<(s.length:Int)
 ·left
  rw[Vz b h];exact⟨Mc,Mc,rfl,rfl⟩
 right
 rw[Uy Ck];exact⟨.inr Mc,rfl⟩
def Oa{s:TB}{i a b:Int}(f:0<=i)(l:i<=(s.length:Int))(g:0<=a):(0<=cnt s i a b/\i<(s.length:Int)/\Rd.cn s a b ⟨i.toNat,false⟩=(cnt s i a b,⟨(i+1).toNat,false⟩))\/(cnt s i a b<0/\(Rd.cn s a b ⟨i.toNat,false⟩).2.bad=true):=by
 by_cases h:i<(s.length:Int)
 ·have m:=at_bd s i;have j:0<=at' s i:=by unfold at';rw[Pk Ck,Pk Ck];omega
  unfold Rd.cn cnt;rw[Vz f h];by_cases c:at' s i<a;·right;rw[Th c,Th c];exact⟨Ck,rfl⟩
  rw[Pk c,Pk c];by_cases e:b<at' s i;·right;rw[Th e,Th e];exact⟨Ck,rfl⟩
  left;rw[Pk e,Pk e];exact⟨j,h,rfl⟩
 right
 refine⟨by rw[Kr Ck g];omega,?_⟩;unfold Rd.cn;rw[Uy Ck]
 split
 ·rfl
 split<;>rfl
def Jh(s:TB)(a b:Int)(p:Nat):(Rd.cn s a b ⟨p,true⟩).2.bad=true:=by
 unfold Rd.cn
 split
 ·rfl
 split
 ·rfl
 exact Fw s p
def Sn{α β:Type}{g:β->α}{n:Nat}{f:Rd.St->α×Rd.St}{F:Int->β×Int}(c:∀i:Int,0<=i->i<=(n:Int)->Lnk g n (f ⟨i.toNat,false⟩) (F i)) (h:∀p,(f ⟨p,true⟩).2.bad=true)(j:∀i:Int,(n:Int)<i->(F i).2<0\/(n:Int)<(F i).2)(k:Nat)(i:Int)(l:0<=i)(m:i<=(n:Int)):Lnk (List.map g) n (Rd.rep f k ⟨i.toNat,false⟩) (rep F k i):=by
 induction k with
 | zero=>left;exact⟨l,m,rfl,rfl⟩
 | succ k ih =>
  unfold Rd.rep rep;rcases ih with ⟨q,s,t,v⟩|⟨b,z⟩
  ·rw[Pk Ck,t,v];rcases c _ q s with ⟨A,B,C,D⟩|⟨G,I⟩
   ·left
    rw[Pk Ck];exact⟨A,B,by simp[C],D⟩
   right
   refine⟨?_,I⟩
   split
   ·left;simp
   exact G
  right
  refine⟨?_,?_⟩
  ·split
   ·left;simp
   split
   ·left;simp
   rcases b with b|b
   ·omega
   rcases j _ b with e|e
   ·omega
   right;exact e
  obtain⟨p,J⟩:=Df _ z;rw[J];exact h p
def Mq{α:Type}{f:Rd.St->α×Rd.St}(b:∀p,(f ⟨p,true⟩).2.bad=true)(k:Nat)(p:Nat):(Rd.rep f k ⟨p,true⟩).2.bad=true:=by
 induction k with
 | zero=>rfl
 | succ k ih =>
  unfold Rd.rep;obtain⟨q,c⟩:=Df _ ih;simp only;rw[c];exact b q
end Rf
namespace Rf
def Zb(s:TB)(p:Nat):(Rd.ty s ⟨p,true⟩).2.bad=true:=by
 unfold Rd.ty;obtain⟨q,b⟩:=Df _ (Fw s p);simp only;rw[b];exact Fw s q
def Bi0{s:TB}{i:Int}(h:0<=i)(j:i<=(s.length:Int)):Lnk id s.length (Rd.ty s ⟨i.toNat,false⟩) (ty s i):=by
 unfold Rd.ty ty;rcases N7 h j with ⟨_,b,c,e⟩|⟨l,m⟩
 ·simp only at b c e;rw[c,e];rcases N7 (s:=s) (i:=i+1) Ck b with ⟨_,p,f,g⟩|⟨t,v⟩
  ·simp only at p f g
   left
   exact⟨Mc,Mc,by simp only[f,id_eq],by simp only[g];rw[show i+1+1=i+2 by omega]⟩
  simp only at t
  right
  exact⟨.inr Mc,v⟩
 simp only at l;obtain⟨q,z⟩:=Df _ m
 right
 refine⟨.inr Mc,?_⟩;simp only;rw[z];exact Fw s q
def rep_step{α:Type}{f:Int->α×Int}{k:Nat}{c B b:Int}{l:List α}{x:α}(h:rep f k c=(l,B))(g:0<=B)(e:f B=(x,b))(m:0<=b):rep f (k+1) c=(l++[x],b):=by
 unfold rep;rw[h];show (if B<0 then ([],-1) else if (f B).2<0 then ([],-1) else (l++[(f B).1],(f B).2))=_
 rw[Pk Ck,e];exact Pk Mc
def Boc(s:TB)(k:Nat)(i:Int)(b:0<=i):rep (ty s) k i=(tys s i k,i+2*(k:Int)):=by
 induction k with
 | zero=>simp[rep,tys]
 | succ k ih =>
  rw[rep_step ih Ck rfl Ck];refine Btq rfl ?_;simp only;omega
def Li(s:TB)(k p:Nat):(Rd.tys s k ⟨p,true⟩).2.bad=true:=Mq (Zb s) k p
def Xa{s:TB}{i:Int}(k:Nat)(c:0<=i)(e:i<=(s.length:Int)):Lnk id s.length (Rd.tys s k ⟨i.toNat,false⟩) (tys s i k,i+2*(k:Int)):=by
 have h:=Sn (g:=id) (fun i a b=>Bi0 (s:=s) a b) (Zb s) (fun i f=>.inr (by simp only[ty];omega)) k i c e;rw[Boc s k i c]at h;unfold Rd.tys;simpa[Lnk] using h
def Bga(s:TB)(p:Nat):(Rd.cls s ⟨p,true⟩).2.bad=true:=by
 unfold Rd.cls;obtain⟨q,b⟩:=Df _ (Fw s p);obtain⟨c,e⟩:=Df _ (Jh s 0 4 q);simp only;rw[b,e];exact Li s _ c
def Bpa(s:TB)(i:Int)(h:(s.length:Int)<i):(cls s i).2<0:=by
 unfold cls;rw[Kr Ck Ck,Th Ck]
 decide
def Bpb{s:TB}{i:Int}(l:0<=i)(m:i<=(s.length:Int)):Lnk id s.length (Rd.cls s ⟨i.toNat,false⟩) (cls s i):=by
 unfold Rd.cls cls;rcases N7 l m with ⟨_,e,f,g⟩|⟨p,t⟩
 ·simp only at e f g;simp only;rw[f,g];rcases Oa (s:=s) (i:=i+1) (a:=0) (b:=4) Ck e Ck with ⟨I,J,v⟩|⟨z,A⟩
  ·rw[Pk Ck,v];simp only;rcases Xa (s:=s) (i:=i+1+1) (cnt s (i+1) 0 4).toNat Ck Ck with ⟨_,B,h,j⟩|⟨C,D⟩
   ·simp only at B h j
    left
    rw[show i+1+1=i+2 by omega]at *;refine⟨Mc,Mc,?_,?_⟩
    ·simp only[h,id_eq]
    rw[j];simp only;congr 2;omega
   simp only at C
   right
   exact⟨.inr Mc,D⟩
  rw[Th z]
  right
  obtain⟨q,c⟩:=Df _ A;simp only;rw[c];exact⟨.inl Fm,Li s _ q⟩
 simp only at p;rw[Kr Ck Ck,Th Ck]
 right
 obtain⟨q,c⟩:=Df _ t;obtain⟨F,G⟩:=Df _ (Jh s 0 4 q);simp only;rw[c,G];exact⟨.inl Fm,Li s _ F⟩
def Bng(s:TB)(k:Nat)(i:Int)(b:0<=i):rep (fun i=>(at' s i,i+1)) k i=(codeTo s i k,i+(k:Int)):=by
 induction k with
 | zero=>simp[rep,codeTo]
 | succ k ih =>
  rw[rep_step ih Ck rfl Ck];refine Btq rfl ?_;simp only;omega
def Bnh{s:TB}{i:Int}(k:Nat)(c:0<=i)(e:i<=(s.length:Int)):Lnk id s.length (Rd.rep (Rd.nx s) k ⟨i.toNat,false⟩) (codeTo s i k,i+(k:Int)):=by
 have h:=Sn (g:=id) (F:=fun i=>(at' s i,i+1)) (fun i a b=>N7 (s:=s) a b) (Fw s) (fun i f=>.inr Mc) k i c e;rw[Bng s k i c]at h;simpa[Lnk] using h
def A7(s:TB)(p:Nat):(Rd.hnd s ⟨p,true⟩).2.bad=true:=by
 unfold Rd.hnd;obtain⟨q,b⟩:=Df _ (Fw s p);obtain⟨c,e⟩:=Df _ (Fw s q);obtain⟨f,g⟩:=Df _ (Fw s c);simp only;rw[b,e,g];exact Fw s f
def Bo4{s:TB}{i:Int}(f:0<=i)(t:i<=(s.length:Int)):Lnk id s.length (Rd.hnd s ⟨i.toNat,false⟩) (hndAt s i,i+4):=by
 by_cases h:i+4<=(s.length:Int)
 ·left
  unfold Rd.hnd hndAt;simp only;rw[Vz f Ck,Vz Ck Ck,Vz Ck Ck,Vz Ck Ck];refine⟨Ck,h,?_,?_⟩
  ·simp only[id_eq,show i+1+1=i+2 by omega,show i+2+1=i+3 by omega]
  simp only;congr 2;omega
 right
 refine⟨.inr Mc,?_⟩;unfold Rd.hnd;simp only;rcases N7 f t with ⟨_,g,_,j⟩|⟨_,v⟩
 ·simp only at g j;rw[j];rcases N7 (s:=s) (i:=i+1) Ck g with ⟨_,l,_,m⟩|⟨_,z⟩
  ·simp only at l m;rw[m];rcases N7 (s:=s) (i:=i+1+1) Ck l with ⟨_,A,_,p⟩|⟨_,B⟩
   ·simp only at A p;rw[p,Uy Ck]
   obtain⟨q,b⟩:=Df _ B;rw[b];exact Fw s q
  obtain⟨q,b⟩:=Df _ z;obtain⟨c,e⟩:=Df _ (Fw s q);rw[b,e];exact Fw s c
 obtain⟨q,b⟩:=Df _ v;obtain⟨c,e⟩:=Df _ (Fw s q);obtain⟨C,D⟩:=Df _ (Fw s c);rw[b,e,D];exact Fw s C
def Bo3(s:TB)(k:Nat)(i:Int)(b:0<=i):rep (fun i=>(hndAt s i,i+4)) k (i+1)=(hndTo s i k,i+1+4*(k:Int)):=by
 induction k with
 | zero=>simp[rep,hndTo]
 | succ k ih =>
  rw[rep_step ih Ck rfl Ck];refine Btq rfl ?_;simp only;omega
def Bdw(s:TB)(p:Nat):(Rd.hnds s ⟨p,true⟩).2.bad=true:=by
 unfold Rd.hnds;obtain⟨q,b⟩:=Df _ (Jh s 0 4 p);simp only;rw[b];exact Mq (A7 s) _ q
def Bm7{s:TB}{i:Int}(c:0<=i)(j:i<=(s.length:Int)):Lnk id s.length (Rd.hnds s ⟨i.toNat,false⟩) (hnds s i):=by
 unfold Rd.hnds hnds;rcases Oa (s:=s) (i:=i) (a:=0) (b:=4) c j Ck with ⟨B,C,l⟩|⟨m,p⟩
 ·rw[Pk Ck,l];simp only;have h:=Sn (g:=id) (F:=fun i=>(hndAt s i,i+4)) (fun i a b=>Bo4 (s:=s) a b) (A7 s) (fun i D=>.inr Mc) (cnt s i 0 4).toNat (i+1) Ck Ck;rw[Bo3 s _ i c]at h;rcases h with ⟨_,t,e,f⟩|⟨v,z⟩
  ·simp only at t e f
   left
   rw[Pk Ck];refine⟨Mc,Mc,?_,?_⟩
   ·simp only[e,id_eq,List.map_id_fun]
   rw[f];simp only;congr 2;omega
  simp only at v
  right
  rw[Th Ck];exact⟨.inl Fm,z⟩
 rw[Th m]
 right
 obtain⟨q,A⟩:=Df _ p;simp only;rw[A];exact⟨.inl Fm,Mq (A7 s) _ q⟩
def Bdi(s:TB)(L H:Int)(p:Nat):(Rd.mp s L H ⟨p,true⟩).2.bad=true:=by
 unfold Rd.mp;obtain⟨q,b⟩:=Df _ (Fw s p);obtain⟨c,e⟩:=Df _ (Li s L.toNat q);obtain⟨f,g⟩:=Df _ (Jh s 0 H c);simp only;rw[b,e,g];exact Li s _ f
def Bqi{s:TB}{c H i:Int}(Z:0<=c)(z:0<=i)(A:i<=(s.length:Int)):Lnk id s.length (Rd.mp s c H ⟨i.toNat,false⟩) (mp s c H i):=by
 unfold Rd.mp mp;rcases N7 z A with ⟨_,j,l,m⟩|⟨B,C⟩
 ·simp only at j l m;simp only;rw[l,m];rcases Xa (s:=s) (i:=i+1) c.toNat Ck j with ⟨_,f,p,t⟩|⟨D,F⟩
  ·simp only at f p t;rw[p,t];have G:i+1+2*((c.toNat:Nat):Int)=i+1+2*c:=Ck;rw[G]at f ⊢;rcases Oa (s:=s) (i:=i+1+2*c) (a:=0) (b:=H) Ck f Ck with ⟨c0,c1,I⟩|⟨J,K⟩
   ·rw[Pk Ck,I];simp only;rcases Xa (s:=s) (i:=i+1+2*c+1) (cnt s (i+1+2*c) 0 H).toNat Ck Ck with ⟨_,v,g2,g3⟩|⟨N,O⟩
    ·simp only at v g2 g3
     left
     have Q:i+1+2*c+1=i+2+2*c:=Ck;rw[Q]at v g2 g3 ⊢;refine⟨Mc,Mc,?_,?_⟩
     ·simp only[g2,id_eq]
     rw[g3];simp only;congr 2;omega
    simp only at N
    right
    exact⟨.inr Mc,O⟩
   rw[Th J]
   right
   obtain⟨q,e⟩:=Df _ K;simp only;rw[e];exact⟨.inl Fm,Li s _ q⟩
  simp only at D;rw[Kr Ck Ck,Th Ck]
  right
  obtain⟨q,e⟩:=Df _ F;obtain⟨g,h⟩:=Df _ (Jh s 0 H q);simp only;rw[e,h];exact⟨.inl Fm,Li s _ g⟩
 simp only at B;rw[Kr Ck Ck,Th Ck]
 right
 obtain⟨q,e⟩:=Df _ C;obtain⟨V,Y⟩:=Df _ (Li s c.toNat q);obtain⟨g,h⟩:=Df _ (Jh s 0 H V);simp only;rw[e,Y,h];exact⟨.inl Fm,Li s _ g⟩
def Bf1(s:TB)(L H:Int)(p:Nat):(Rd.mps s L H ⟨p,true⟩).2.bad=true:=by
 unfold Rd.mps;obtain⟨q,b⟩:=Df _ (Jh s 0 64 p);simp only;rw[b];exact Mq (Bdi s L H) _ q
def Bos{s:TB}{L H i:Int}(c:0<=L)(e:0<=i)(f:i<=(s.length:Int)):Lnk id s.length (Rd.mps s L H ⟨i.toNat,false⟩) (mps s i L H):=by
 unfold Rd.mps mps;rcases Oa (s:=s) (i:=i) (a:=0) (b:=64) e f Ck with ⟨t,v,j⟩|⟨l,m⟩
 ·rw[Pk Ck,j];simp only;have h:=Sn (g:=id) (fun i a b=>Bqi (s:=s) (H:=H) c a b) (Bdi s L H) (fun i z=>.inl (by unfold mp;rw[Kr Ck Ck,Th Ck];decide)) (cnt s i 0 64).toNat (i+1) Ck Ck;simpa[Lnk] using h
 rw[Th l]
 right
 obtain⟨q,p⟩:=Df _ m;simp only;rw[p];exact⟨.inl Fm,Mq (Bdi s L H) _ q⟩
def Bf0(s:TB)(p:Nat):(Rd.mth s ⟨p,true⟩).2.bad=true:=by
 unfold Rd.mth;obtain⟨e,f⟩:=Df _ (Fw s p);obtain⟨b,g⟩:=Df _ (Fw s e);obtain⟨h,i⟩:=Df _ (Jh s 0 4 b);obtain⟨j,l⟩:=Df _ (Li s (Rd.cn s 0 4 ⟨b,true⟩).1.toNat h);obtain⟨m,t⟩:=Df _ (Zb s j);obtain⟨v,z⟩:=Df _ (Jh s 0 8 m);obtain⟨c,A⟩:=Df _ (Jh s 0 8 v);obtain⟨B,C⟩:=Df _ (show (Rd.codes s ⟨c,true⟩).2.bad=true by
  unfold Rd.codes;obtain⟨q,D⟩:=Df _ (Jh s 1 120 c);simp only;rw[D];exact Mq (Fw s) _ q)
 obtain⟨F,G⟩:=Df _ (Bdw s B);simp only;rw[f,g,i,l,t,z,A,C,G];exact Bf1 s _ _ F
def Bk0(s:TB)(p:Nat):(Rd.codes s ⟨p,true⟩).2.bad=true:=by
 unfold Rd.codes;obtain⟨q,b⟩:=Df _ (Jh s 1 120 p);simp only;rw[b];exact Mq (Fw s) _ q
def g10 (s:TB)(l h:Int)(t:Rd.St):Rd.St:=(Rd.mps s l h t).2
def g9 (s:TB)(l h:Int)(t:Rd.St):Rd.St:=g10 s l h (Rd.hnds s t).2
def g8 (s:TB)(l h:Int)(t:Rd.St):Rd.St:=g9 s l h (Rd.codes s t).2
def g7 (s:TB)(l:Int)(t:Rd.St):Rd.St:=g8 s l (Rd.cn s 0 8 t).1 (Rd.cn s 0 8 t).2
def g6 (s:TB)(t:Rd.St):Rd.St:=g7 s (Rd.cn s 0 8 t).1 (Rd.cn s 0 8 t).2
def g5 (s:TB)(t:Rd.St):Rd.St:=g6 s (Rd.ty s t).2
def g4 (s:TB)(p:Int)(t:Rd.St):Rd.St:=g5 s (Rd.tys s p.toNat t).2
def g3 (s:TB)(t:Rd.St):Rd.St:=g4 s (Rd.cn s 0 4 t).1 (Rd.cn s 0 4 t).2
def g2 (s:TB)(t:Rd.St):Rd.St:=g3 s (Rd.nx s t).2
def Bhu(s:TB)(t:Rd.St):(Rd.mth s t).2=g2 s (Rd.nx s t).2:=by
 simp only[Rd.mth,g2,g3,g4,g5,g6,g7,g8,g9,g10]
def Bf7{F:TB}{c B:Int}{t:Rd.St}(b:t.bad=true):(g10 F c B t).bad=true:=by
 obtain⟨p,rfl⟩:=Df t b;exact Bf1 F c B p
def Bd2{F:TB}{c B:Int}{t:Rd.St}(b:t.bad=true):(g9 F c B t).bad=true:=by
 obtain⟨p,rfl⟩:=Df t b;exact Bf7 (Bdw F p)
def Bkl{F:TB}{c B:Int}{t:Rd.St}(b:t.bad=true):(g8 F c B t).bad=true:=by
 obtain⟨p,rfl⟩:=Df t b;exact Bd2 (Bk0 F p)
def Bkm{F:TB}{c:Int}{t:Rd.St}(b:t.bad=true):(g7 F c t).bad=true:=by
 obtain⟨p,rfl⟩:=Df t b;exact Bkl (Jh F 0 8 p)
def Bkn{F:TB}{t:Rd.St}(b:t.bad=true):(g6 F t).bad=true:=by
 obtain⟨p,rfl⟩:=Df t b;exact Bkm (Jh F 0 8 p)
def Bko{F:TB}{t:Rd.St}(b:t.bad=true):(g5 F t).bad=true:=by
 obtain⟨p,rfl⟩:=Df t b;exact Bkn (Zb F p)
def Bkp{F:TB}{c:Int}{t:Rd.St}(b:t.bad=true):(g4 F c t).bad=true:=by
 obtain⟨q,rfl⟩:=Df t b;exact Bko (Li F _ q)
def Bkq{F:TB}{t:Rd.St}(b:t.bad=true):(g3 F t).bad=true:=by
 obtain⟨p,rfl⟩:=Df t b;exact Bkp (Jh F 0 4 p)
def Bqo{F:TB}{t:Rd.St}(b:t.bad=true):(g2 F t).bad=true:=by
 obtain⟨p,rfl⟩:=Df t b;exact Bkq (Fw F p)
def hnds_le(s:TB)(i:Int):(hnds s i).2<=(s.length:Int):=by
 unfold hnds
 split
 ·simp only;omega
 split
 ·simp only;omega
 simp only;omega
def Bor{s:TB}{i:Int}(h0:0<=i)(h1:i<=(s.length:Int)):Lnk Mth.m s.length (Rd.mth s ⟨i.toNat,false⟩) (mth s i):=by
 -- where the document's reader has nothing, it is enough that the program's is bad
 have c:∀x:Mth×Int,x.2<0->(Rd.mth s ⟨i.toNat,false⟩).2.bad=true->Lnk Mth.m s.length (Rd.mth s ⟨i.toNat,false⟩) x:=fun x a b=>.inr ⟨.inl a,b⟩;rcases N7 h0 h1 with ⟨_,a1,a2,g⟩|⟨b0,h⟩
 rotate_left
 ·simp only at b0;refine c _ ?_ (Bqo h);unfold mth;simp only;rw[Kr Ck Ck,Th Ck]
  decide
 simp only at a1 a2 g;rcases N7 (s:=s) (i:=i+1) Ck a1 with ⟨_,h,b2,l⟩|⟨c0,c1⟩
 rotate_left
 ·simp only at c0;refine c _ ?_ ?_
  ·unfold mth;simp only;rw[Kr Ck Ck,Th Ck]
   decide
  rw[Bhu,g];exact Bkq c1
 simp only at h b2 l;rw[show i+1+1=i+2 by omega]at h l;rcases Oa (s:=s) (i:=i+2) (a:=0) (b:=4) Ck h Ck with ⟨c0,c1,F⟩|⟨G,e⟩
 rotate_left
 ·refine c _ ?_ ?_
  ·unfold mth;simp only;rw[Th G]
   decide
  rw[Bhu,g];show (g3 s (Rd.nx s _).2).bad=true;rw[l];exact Bkp e
 rw[show i+2+1=i+3 by omega]at F;have e2:(Rd.mth s ⟨i.toNat,false⟩).2=g4 s (cnt s (i+2) 0 4) ⟨(i+3).toNat,false⟩:=by
  rw[Bhu,g];show g3 s (Rd.nx s _).2=_;rw[l];show g4 s (Rd.cn s 0 4 _).1 (Rd.cn s 0 4 _).2=_;rw[F]
 have cb:=cnt_bd s (i+2) 0 4 Ck
 -- the parameters
 rcases Xa (s:=s) (i:=i+3) (cnt s (i+2) 0 4).toNat Ck Ck with ⟨_,e,d2,t⟩|⟨G,e⟩
 rotate_left
 ·simp only at G;refine c _ ?_ ?_
  ·unfold mth;simp only;rw[Pk Ck,Kr (i:=i+3+2*cnt s (i+2) 0 4+2) Ck Ck,Th Ck]
   decide
  rw[e2];exact Bko e
 simp only at e d2 t;rw[show i+3+2*(((cnt s (i+2) 0 4).toNat:Nat):Int)=i+3+2*cnt s (i+2) 0 4 by omega]at e t;have e3:(Rd.mth s ⟨i.toNat,false⟩).2=g5 s ⟨(i+3+2*cnt s (i+2) 0 4).toNat,false⟩:=by
  rw[e2];show g5 s (Rd.tys s _ _).2=_;rw[t]
 generalize f:i+3+2*cnt s (i+2) 0 4=j at *;have j0:0<=j:=Ck;rcases Bi0 (s:=s) (i:=j) j0 e with ⟨_,v,f2,I⟩|⟨f0,v⟩
 rotate_left
 ·simp only[ty]at f0;refine c _ ?_ ?_
  ·unfold mth;simp only;rw[Pk Ck,f,Kr (i:=j+2) Ck Ck,Th Ck]
   decide
  rw[e3];exact Bkn v
 simp only[ty]at v f2 I;have J:(Rd.mth s ⟨i.toNat,false⟩).2=g6 s ⟨(j+2).toNat,false⟩:=by
  rw[e3];show g6 s (Rd.ty s _).2=_;rw[I]
 rcases Oa (s:=s) (i:=j+2) (a:=0) (b:=8) Ck v Ck with ⟨K,l1,z⟩|⟨K,l1⟩
 rotate_left
 ·refine c _ ?_ ?_
  ·unfold mth;simp only;rw[Pk Ck,f,Th K]
   decide
  rw[J];exact Bkm l1
 rw[show j+2+1=j+3 by omega]at z;rcases Oa (s:=s) (i:=j+3) (a:=0) (b:=8) Ck Ck Ck with ⟨k0,k1,N⟩|⟨k0,k1⟩
 rotate_left
 ·refine c _ ?_ ?_
  ·unfold mth;simp only;rw[Pk Ck,f,Pk Ck,Th k0]
   decide
  rw[J];show (g7 s (Rd.cn s 0 8 _).1 (Rd.cn s 0 8 _).2).bad=true;rw[z];exact Bkl k1
 rw[show j+3+1=j+4 by omega]at N;have C:(Rd.mth s ⟨i.toNat,false⟩).2=g8 s (cnt s (j+2) 0 8) (cnt s (j+3) 0 8) ⟨(j+4).toNat,false⟩:=by
  rw[J];show g7 s (Rd.cn s 0 8 _).1 (Rd.cn s 0 8 _).2=_;rw[z];show g8 s _ (Rd.cn s 0 8 _).1 (Rd.cn s 0 8 _).2=_;rw[N]
 rcases Oa (s:=s) (i:=j+4) (a:=1) (b:=120) Ck Ck Ck with ⟨n0,n1,O⟩|⟨n0,n1⟩
 rotate_left
 ·refine c _ ?_ ?_
  ·unfold mth;simp only;rw[Pk Ck,f,Pk Ck,Pk Ck,Th n0]
   decide
  rw[C];refine Bd2 ?_;unfold Rd.codes;obtain⟨q,hq⟩:=Df _ n1;simp only;rw[hq];exact Mq (Fw s) _ q
 rw[show j+4+1=j+5 by omega]at O;rcases Bnh (s:=s) (i:=j+5) (cnt s (j+4) 1 120).toNat Ck Ck with ⟨_,p,o2,Q⟩|⟨o0,p⟩
 rotate_left
 ·simp only at o0;refine c _ ?_ ?_
  ·unfold mth;simp only;rw[Pk Ck,f,Pk Ck,Pk Ck,Pk Ck,Th Ck]
   decide
  rw[C];refine Bd2 ?_;unfold Rd.codes;simp only;rw[O];exact p
 simp only at p o2 Q;rw[show j+5+(((cnt s (j+4) 1 120).toNat:Nat):Int)=j+5+cnt s (j+4) 1 120 by omega]at p Q;have V:Rd.codes s ⟨(j+4).toNat,false⟩=(codeTo s (j+5) (cnt s (j+4) 1 120).toNat,⟨(j+5+cnt s (j+4) 1 120).toNat,false⟩):=by
  unfold Rd.codes;simp only;rw[O];exact Btq o2 Q
 rcases Bm7 (s:=s) (i:=j+5+cnt s (j+4) 1 120) Ck p with ⟨p0,Y,p2,p3⟩|⟨p0,Y⟩
 rotate_left
 ·have a0:=hnds_le s (j+5+cnt s (j+4) 1 120);refine c _ ?_ ?_
  ·unfold mth;simp only;rw[Pk Ck,f,Pk Ck,Pk Ck,Pk Ck,Pk Ck,Th Ck]
   decide
  rw[C];show (g9 s _ _ (Rd.codes s _).2).bad=true;rw[V];exact Bf7 Y
 have hm:=Bos (s:=s) (L:=cnt s (j+2) 0 8) (H:=cnt s (j+3) 0 8) K p0 Y;have e6:(Rd.mth s ⟨i.toNat,false⟩).2=(Rd.mps s (cnt s (j+2) 0 8) (cnt s (j+3) 0 8) ⟨(hnds s (j+5+cnt s (j+4) 1 120)).2.toNat,false⟩).2:=by
  rw[C];show g9 s _ _ (Rd.codes s _).2=_;rw[V];show g10 s _ _ (Rd.hnds s _).2=_;simp only;rw[p3];rfl
 have hx:mth s i=(⟨⟨at' s i,at' s (i+1),tys s (i+3) (cnt s (i+2) 0 4).toNat,(at' s j,at' s (j+1)),cnt s (j+2) 0 8,cnt s (j+3) 0 8,codeTo s (j+5) (cnt s (j+4) 1 120).toNat,(hnds s (j+5+cnt s (j+4) 1 120)).1,(mps s (hnds s (j+5+cnt s (j+4) 1 120)).2 (cnt s (j+2) 0 8) (cnt s (j+3) 0 8)).1⟩,(hnds s (j+5+cnt s (j+4) 1 120)).2,(mps s (hnds s (j+5+cnt s (j+4) 1 120)).2 (cnt s (j+2) 0 8) (cnt s (j+3) 0 8)).2⟩,(mps s (hnds s (j+5+cnt s (j+4) 1 120)).2 (cnt s (j+2) 0 8) (cnt s (j+3) 0 8)).2):=by
  unfold mth;simp only;rw[Pk Ck,f,Pk Ck,Pk Ck,Pk Ck,Pk Ck,Pk Ck]
 rw[hx];rcases hm with ⟨Z,m1,m2,m3⟩|⟨Z,m1⟩
 ·left
  refine⟨Z,m1,?_,by rw[e6];exact m3⟩;have A:Rd.nx s ⟨i.toNat,false⟩=(at' s i,⟨(i+1).toNat,false⟩):=Btq a2 g;have B:Rd.nx s ⟨(i+1).toNat,false⟩=(at' s (i+1),⟨(i+2).toNat,false⟩):=Btq b2 l;have D:Rd.tys s (cnt s (i+2) 0 4).toNat ⟨(i+3).toNat,false⟩=(tys s (i+3) (cnt s (i+2) 0 4).toNat,⟨j.toNat,false⟩):=Btq d2 t;have E:Rd.ty s ⟨j.toNat,false⟩=((at' s j,at' s (j+1)),⟨(j+2).toNat,false⟩):=Btq f2 I;have P:Rd.hnds s ⟨(j+5+cnt s (j+4) 1 120).toNat,false⟩=((hnds s (j+5+cnt s (j+4) 1 120)).1,⟨(hnds s (j+5+cnt s (j+4) 1 120)).2.toNat,false⟩):=Btq p2 p3;simp only[Rd.mth,A,B,F,D,E,z,N,V,P];simp only[id_eq]at m2;rw[m2]
 right
 exact⟨Z,by rw[e6];exact m1⟩
def Boq(s:TB)(i:Int)(h:(s.length:Int)<i):(mth s i).2<0:=by
 unfold mth;simp only;rw[Kr Ck Ck,Th Ck]
 decide
def Bqr(s:TB)(b:Int)(p:Nat):(Rd.ex s b ⟨p,true⟩).bad=true:=by
 unfold Rd.ex
 split
 ·exact Fw s p
 rfl
def Bky{s:TB}{i b:Int}(c:0<=i)(f:i<=(s.length:Int))(g:0<=b):(at' s i=b/\i<(s.length:Int)/\Rd.ex s b ⟨i.toNat,false⟩=⟨(i+1).toNat,false⟩)\/(at' s i≠b/\(Rd.ex s b ⟨i.toNat,false⟩).bad=true):=by
 unfold Rd.ex;by_cases h:i<(s.length:Int)
 ·rw[Vz c h];by_cases e:at' s i=b;·left;rw[Th e];exact⟨e,h,rfl⟩
  right;rw[Pk e];exact⟨e,rfl⟩
 right
 rw[Uy Ck,at_out Ck];refine⟨Ck,?_⟩
 split<;>rfl
def fil_same(s:TB):((Rd.fil s ⟨0,false⟩).2.bad=false/\(Rd.fil s ⟨0,false⟩).2.pos=s.length<->(fil s).2.2=(s.length:Int))/\((fil s).2.2=(s.length:Int)->(Rd.fil s ⟨0,false⟩).1.classes=(fil s).1/\(Rd.fil s ⟨0,false⟩).1.methods=(fil s).2.1.map Mth.m):=by
 -- the stages of the program's reader
 have e:(Rd.fil s ⟨0,false⟩).2=(Rd.rep (Rd.mth s) (Rd.cn s 1 6 (Rd.rep (Rd.cls s) (Rd.cn s 0 6 (Rd.ex s 77 (Rd.ex s 83 ⟨0,false⟩))).1.toNat (Rd.cn s 0 6 (Rd.ex s 77 (Rd.ex s 83 ⟨0,false⟩))).2).2).1.toNat
   (Rd.cn s 1 6 (Rd.rep (Rd.cls s) (Rd.cn s 0 6 (Rd.ex s 77 (Rd.ex s 83 ⟨0,false⟩))).1.toNat (Rd.cn s 0 6 (Rd.ex s 77 (Rd.ex s 83 ⟨0,false⟩))).2).2).2).2:=by simp only[Rd.fil]
 have N:∀(k:Nat) (t:Rd.St),t.bad=true->(Rd.rep (Rd.mth s) k t).2.bad=true:=fun k t z=>by
  obtain⟨p,rfl⟩:=Df t z;exact Mq (Bf0 s) k p
 have B:∀(t:Rd.St),t.bad=true->(Rd.rep (Rd.mth s) (Rd.cn s 1 6 t).1.toNat (Rd.cn s 1 6 t).2).2.bad=true:=fun t z=>by
  obtain⟨p,rfl⟩:=Df t z;exact N _ _ (Jh s 1 6 p)
 have C:∀(k:Nat) (t:Rd.St),t.bad=true->(Rd.rep (Rd.cls s) k t).2.bad=true:=fun k t z=>by
  obtain⟨p,rfl⟩:=Df t z;exact Mq (Bga s) k p
 have f:(Rd.fil s ⟨0,false⟩).2.bad=true->(fil s).2.2≠(s.length:Int) ->
   ((Rd.fil s ⟨0,false⟩).2.bad=false/\(Rd.fil s ⟨0,false⟩).2.pos=s.length<->(fil s).2.2=(s.length:Int)) /\
   ((fil s).2.2=(s.length:Int)->(Rd.fil s ⟨0,false⟩).1.classes=(fil s).1/\(Rd.fil s ⟨0,false⟩).1.methods=(fil s).2.1.map Mth.m):=by
  intro a b;refine⟨⟨fun h=>?_,fun h=>absurd h b⟩,fun h=>absurd h b⟩;rw[a]at h;exact absurd h.1 Hd
 rcases Bky (s:=s) (i:=0) (b:=83) Ck Ck Ck with ⟨O,Q,a3⟩|⟨O,Q⟩
 rotate_left
 ·refine f ?_ ?_
  ·rw[e];refine B _ (C _ _ ?_);have h1:(Rd.ex s 83 ⟨0,false⟩).bad=true:=Q;obtain⟨p,hp⟩:=Df _ h1;rw[hp];obtain⟨q,D⟩:=Df _ (Bqr s 77 p);rw[D];exact Jh s 0 6 q
  unfold fil;rw[Th O];simp only;omega
 have c:Rd.ex s 83 ⟨0,false⟩=⟨(0+1:Int).toNat,false⟩:=a3;rcases Bky (s:=s) (i:=0+1) (b:=77) Ck Ck Ck with ⟨j,V,l⟩|⟨j,V⟩
 rotate_left
 ·refine f ?_ ?_
  ·rw[e,c];refine B _ (C _ _ ?_);obtain⟨q,D⟩:=Df _ V;rw[D];exact Jh s 0 6 q
  unfold fil;rw[Pk Ck,Th (show at' s 1≠77 from j)];simp only;omega
 rcases Oa (s:=s) (i:=0+1+1) (a:=0) (b:=6) Ck Ck Ck with ⟨F,Y,A⟩|⟨F,Y⟩
 rotate_left
 ·refine f ?_ ?_
  ·rw[e,c,l];exact B _ (C _ _ Y)
  unfold fil;rw[Pk Ck,Pk (show ¬at' s 1≠77 from fun h=>h j),Th (show cnt s 2 0 6<0 from F)];simp only;omega
 have a7:0<=cnt s 2 0 6:=F;have hc:=Sn (g:=id) (fun i a b=>Bpb (s:=s) a b) (Bga s) (fun i G=>.inl (Bpa s i G)) (cnt s 2 0 6).toNat 3 Ck Ck;rcases hc with ⟨Z,I,d2,J⟩|⟨Z,I⟩
 rotate_left
 ·refine f ?_ ?_
  ·rw[e,c,l,A];exact B _ I
  unfold fil;rw[Pk Ck,Pk (show ¬at' s 1≠77 from fun h=>h j),Pk (show ¬cnt s 2 0 6<0 by omega)];simp only
  split
  ·simp only;omega
  rw[Kr Ck Ck,Th Ck];simp only;omega
 have a5:(Rd.rep (Rd.cls s) (cnt s 2 0 6).toNat ⟨(3:Int).toNat,false⟩).1=(rep (cls s) (cnt s 2 0 6).toNat 3).1:=by simpa using d2
 rcases Oa (s:=s) (i:=(rep (cls s) (cnt s 2 0 6).toNat 3).2) (a:=1) (b:=6) Z I Ck with ⟨e0,e1,e2⟩|⟨e0,e1⟩
 rotate_left
 ·refine f ?_ ?_
  ·rw[e,c,l,A];show (Rd.rep (Rd.mth s) (Rd.cn s 1 6 (Rd.rep (Rd.cls s) (cnt s 2 0 6).toNat ⟨(3:Int).toNat,false⟩).2).1.toNat (Rd.cn s 1 6 (Rd.rep (Rd.cls s) (cnt s 2 0 6).toNat ⟨(3:Int).toNat,false⟩).2).2).2.bad=true;rw[J];exact N _ _ e1
  unfold fil;rw[Pk Ck,Pk (show ¬at' s 1≠77 from fun h=>h j),Pk (show ¬cnt s 2 0 6<0 by omega)];simp only;rw[Pk Ck,Th e0];simp only;omega
 have hm:=Sn (g:=Mth.m) (fun i a b=>Bor (s:=s) a b) (Bf0 s) (fun i G=>.inl (Boq s i G)) (cnt s (rep (cls s) (cnt s 2 0 6).toNat 3).2 1 6).toNat ((rep (cls s) (cnt s 2 0 6).toNat 3).2+1) Ck Ck;have a0:(Rd.fil s ⟨0,false⟩).2=(Rd.rep (Rd.mth s) (cnt s (rep (cls s) (cnt s 2 0 6).toNat 3).2 1 6).toNat ⟨((rep (cls s) (cnt s 2 0 6).toNat 3).2+1).toNat,false⟩).2:=by
  rw[e,c,l,A];show (Rd.rep (Rd.mth s) (Rd.cn s 1 6 (Rd.rep (Rd.cls s) (cnt s 2 0 6).toNat ⟨(3:Int).toNat,false⟩).2).1.toNat (Rd.cn s 1 6 (Rd.rep (Rd.cls s) (cnt s 2 0 6).toNat ⟨(3:Int).toNat,false⟩).2).2).2=_;rw[J,e2]
 have a6:∀v:List Mth×Int,rep (mth s) (cnt s (rep (cls s) (cnt s 2 0 6).toNat 3).2 1 6).toNat ((rep (cls s) (cnt s 2 0 6).toNat 3).2+1)=v->fil s=if v.2<0 then ([],[],-1) else ((rep (cls s) (cnt s 2 0 6).toNat 3).1,v.1,v.2):=by
  intro v a4;unfold fil;rw[Pk Ck,Pk (show ¬at' s 1≠77 from fun h=>h j),Pk (show ¬cnt s 2 0 6<0 by omega)];simp only;rw[Pk Ck,Pk Ck,a4]
 have K:=a6 _ rfl;generalize a4:rep (mth s) (cnt s (rep (cls s) (cnt s 2 0 6).toNat 3).2 1 6).toNat ((rep (cls s) (cnt s 2 0 6).toNat 3).2+1)=v at *;rcases hm with ⟨m0,m1,m2,m3⟩|⟨m0,m1⟩
 ·rw[Pk Ck]at K;rw[K,a0,m3];refine⟨⟨fun h=>?_,fun h=>?_⟩,fun _=>⟨?_,?_⟩⟩
  ·simp only at h ⊢;omega
  ·simp only at h ⊢;exact⟨trivial,Ck⟩
  ·have L:(Rd.fil s ⟨0,false⟩).1.classes=(Rd.rep (Rd.cls s) (Rd.cn s 0 6 (Rd.ex s 77 (Rd.ex s 83 ⟨0,false⟩))).1.toNat (Rd.cn s 0 6 (Rd.ex s 77 (Rd.ex s 83 ⟨0,false⟩))).2).1:=by simp only[Rd.fil]
   rw[L,c,l,A];exact a5
  have L:(Rd.fil s ⟨0,false⟩).1.methods=(Rd.rep (Rd.mth s) (Rd.cn s 1 6 (Rd.rep (Rd.cls s) (Rd.cn s 0 6 (Rd.ex s 77 (Rd.ex s 83 ⟨0,false⟩))).1.toNat (Rd.cn s 0 6 (Rd.ex s 77 (Rd.ex s 83 ⟨0,false⟩))).2).2).1.toNat
    (Rd.cn s 1 6 (Rd.rep (Rd.cls s) (Rd.cn s 0 6 (Rd.ex s 77 (Rd.ex s 83 ⟨0,false⟩))).1.toNat (Rd.cn s 0 6 (Rd.ex s 77 (Rd.ex s 83 ⟨0,false⟩))).2).2).2).1:=by simp only[Rd.fil]
  rw[L,c,l,A];show (Rd.rep (Rd.mth s) (Rd.cn s 1 6 (Rd.rep (Rd.cls s) (cnt s 2 0 6).toNat ⟨(3:Int).toNat,false⟩).2).1.toNat (Rd.cn s 1 6 (Rd.rep (Rd.cls s) (cnt s 2 0 6).toNat ⟨(3:Int).toNat,false⟩).2).2).1=_;rw[J,e2];exact m2
 refine f (by rw[a0];exact m1) ?_;rw[K]
 split
 ·simp only;omega
 simp only;omega
end Rf
def Iz (w:TW)(b:Nat)(v:TX)(l:List Rd.Hnd):Prop:=w.ownsRow b 164 4 v l.length (Ev l)
def Iz.kp{e:Option TypeId}{u:Nat}{l:TX}{c:List Rd.Hnd}{w s:TW}(h:Iz w u l c)(f:Kp e u w s)(g:some 164≠e):Iz s u l c:=Dc h f g
def Iz.mono{u b':Nat}{l:TX}{c:List Rd.Hnd}{w:TW}(h:Iz w u l c)(e:b'<=u):Iz w b' l c:=D6 h e
def Hm (w:TW)(b:Nat)(v:TX)(l:List (Rd.Cls × Value)):Prop :=
 w.ownsRow b 225 2 v l.length (Jt l)/\∀p∈l,Cq w b p.2 p.1.fields
def Hm.kp{u:Nat}{l:TX}{Q:List (Rd.Cls×Value)}{w s:TW}(h:Hm w u l Q){e:Option TypeId}(c:Kp e u w s)(f:some 225≠e)(g:some 31≠e):Hm s u l Q :=
 ⟨Dc h.1 c f,fun p i=>(h.2 p i).kp c g⟩
def Hm.mono{u b':Nat}{l:TX}{Q:List (Rd.Cls×Value)}{w:TW}(h:Hm w u l Q)(c:b'<=u):Hm w b' l Q:=⟨D6 h.1 c,fun p e=>(h.2 p e).mono c⟩
def K4 (w:TW)(b:Nat)(v:TX)(l:List (Rd.Mp × Value × Value)):Prop :=
 w.ownsRow b 168 3 v l.length (Rt l)/\∀p∈l,Cq w b p.2.1 p.1.locals/\Cq w b p.2.2 p.1.stack
def K4.kp{u:Nat}{l:TX}{c:List (Rd.Mp×Value×Value)}{w s:TW}(h:K4 w u l c){e:Option TypeId}(f:Kp e u w s)(j:some 168≠e)(g:some 31≠e):K4 s u l c :=
 ⟨Dc h.1 f j,fun p i=>⟨(h.2 p i).1.kp f g,(h.2 p i).2.kp f g⟩⟩
def K4.mono{u b':Nat}{l:TX}{c:List (Rd.Mp×Value×Value)}{w:TW}(h:K4 w u l c)(e:b'<=u):K4 w b' l c:=⟨D6 h.1 e,fun p f=>⟨(h.2 p f).1.mono e,(h.2 p f).2.mono e⟩⟩
def Blf (w:TW)(b:Nat)(v:TX)(ms:List Rd.Mp):Prop:=∃l,l.map Prod.fst=ms/\K4 w b v l
structure K0 where
 params:Value
 code:ByteArray
 handlers:Value
 maps:Value
def Ly (x:Rf.Mth)(u:K0):List Value :=
 [.int .i64 x.m.cl,.int .i64 x.m.name,u.params,.int .i64 x.m.result.1,.int .i64 x.m.result.2,.int .i64 x.m.locals,.int .i64 x.m.stack,.string u.code,u.handlers,u.maps,.int .i64 x.mapsAt,.int .i64 x.fin]
def Pn (w:TW)(b:Nat)(x:Rf.Mth)(u:K0):Prop :=
 Cq w b u.params x.m.params/\u.code.data.toList.map (fun c=>(c.toNat:Int))=x.m.code/\Iz w b u.handlers x.m.handlers/\Blf w b u.maps x.m.maps
def Pn.kp{u:Nat}{x:Rf.Mth}{g:K0}{w s:TW}(h:Pn w u x g){e:Option TypeId}(i:Kp e u w s)(j:some 31≠e)(m:some 164≠e)(p:some 168≠e):Pn s u x g:=by
 obtain⟨a,c,d,l,q,f⟩:=h;exact⟨a.kp i j,c,d.kp i m,l,q,f.kp i p j⟩
def Pn.mono{u b':Nat}{x:Rf.Mth}{e:K0}{w:TW}(h:Pn w u x e)(g:b'<=u):Pn w b' x e:=by
 obtain⟨a,c,d,l,i,f⟩:=h;exact⟨a.mono g,c,d.mono g,l,i,f.mono g⟩
def Oh (l:List (Rf.Mth × K0)):List Value:=l.flatMap fun x=>Ly x.1 x.2
def Bbz(l:List (Rf.Mth×K0))(x:Rf.Mth×K0):Oh (l++[x])=Oh l++Ly x.1 x.2:=by simp[Oh]
def Ks (w:TW)(b:Nat)(v:TX)(l:List (Rf.Mth × K0)):Prop :=
 w.ownsRow b 109 12 v l.length (Oh l)/\∀p∈l,Pn w b p.1 p.2
def Ks.kp{u:Nat}{l:TX}{c:List (Rf.Mth×K0)}{w s:TW}(h:Ks w u l c){e:Option TypeId}(f:Kp e u w s)(g:some 109≠e)(i:some 31≠e)(j:some 164≠e)(m:some 168≠e):Ks s u l c :=
 ⟨Dc h.1 f g,fun p q=>(h.2 p q).kp f i j m⟩
def Ks.mono{u b':Nat}{l:TX}{c:List (Rf.Mth×K0)}{w:TW}(h:Ks w u l c)(e:b'<=u):Ks w b' l c:=⟨D6 h.1 e,fun p f=>(h.2 p f).mono e⟩
def Ry{s:ByteArray}{i:Nat}(h:i<s.size):Rf.at' s.data.toList (i:Int)=(s[i].toNat:Int):=by
 have b:i<s.data.toList.length:=by simpa using h
 have e:s.data.toList[i]?.getD 0=s[i]:=by rw[Brl b];rfl
 unfold Rf.at';rw[Pk Ck,Pk Ck,Brx,e]
def Ge(s:ByteArray)(i:Int)(w:TW)(g:s.size<=maxLen):Calls prog 135 #[.string s,.i i] w fun e b=>e=.r (.i (Rf.at' s.data.toList i))/\w=b:=by
 have h:s.data.toList.length=s.size:=Hd;by_cases c:i<0
 ·have e:Rf.at' s.data.toList i = -1:=by unfold Rf.at';rw[Th c]
  rw[e];go_in;go_wp2;go_ret;exact⟨rfl,rfl⟩
 by_cases j:(s.size:Int)<=i;·rw[Rf.at_out Ck];go_in;go_wp2;go_ret;exact⟨rfl,rfl⟩
 obtain⟨k,rfl⟩:=Brp (show 0<=i by omega);have f:k<s.size:=Ck;rw[Ry f];go_in;go_wp2;go_ret;exact⟨Bfw (Bag _),rfl⟩
def Dx(s:ByteArray)(i b c:Int)(w:TW)(f:s.size<=maxLen):Calls prog 136 #[.string s,.i i,.i b,.i c] w fun e m=>e=.r (.i (Rf.cnt s.data.toList i b c))/\w=m:=by
 unfold Rf.cnt;generalize p:Rf.at' s.data.toList i=r;have g:=Bc p;by_cases h:r<b
 ·rw[Th h];go_in;go_wp2_with (go_at_call 135;refine(Ge s i _ f).mono ?_;rw[Ba g];rintro e j ⟨rfl,rfl⟩)
  go_ret;exact⟨rfl,rfl⟩
 rw[Pk h];by_cases l:c<r
 ·rw[Th l];go_in;go_wp2_with (go_at_call 135;refine(Ge s i _ f).mono ?_;rw[Ba g];rintro e j ⟨rfl,rfl⟩)
  go_ret;exact⟨rfl,rfl⟩
 rw[Pk l];go_in;go_wp2_with (go_at_call 135;refine(Ge s i _ f).mono ?_;rw[Ba g];rintro e j ⟨rfl,rfl⟩)
 go_ret;exact⟨rfl,rfl⟩
def Mx(s:TB)(i:Int)(n:Nat):(Rf.tys s i n).length=n:=by
 induction n with
 | zero=>rfl
 | succ k ih=>simp[Rf.tys,ih]
def J8(s:ByteArray)(i n:Int)(w:TW)(g:s.size<=maxLen)(a0:0<=i)(a1:i<=1000000)(a2:0<=n)(a3:n<=255):Calls prog 198 #[.string s,.i i,.i n] w fun e h => ∃a c,e=.r (.s a n.toNat c)/\Cq h w.heap.size (.s a n.toNat c) (Rf.tys s.data.toList i n.toNat)/\Bl w h:=by
 obtain⟨t,z,A,B,C⟩:=Bsa Tryz.infoType;go_in;go_wp2
 go_loopw [7,8] (fun v j wr=>∃k:Nat,(k:Int)<=n/\j=.i k/\wr.ownsRow w.heap.size 31 2 v k (Bp (Rf.tys s.data.toList i k))/\Bl w wr)
  (fun _ j _=>n.toNat-(intOf j).toNat)
 case atStart=>exact⟨0,Ck,rfl,Brw _ _ _ _,Brm _ _⟩
 case round=>
  obtain⟨k,hk,rfl,b,f⟩:=hrel;have D:=f.size;by_cases a4:(k:Int)<n
  ·generalize F:Rf.tys s.data.toList i k=p at *;generalize l:Rf.at' s.data.toList (i+2*(k:Int))=x at *;generalize m:Rf.at' s.data.toList (i+2*(k:Int)+1)=y at *;have G:Hid (Rf.tys s.data.toList i (k+1)=p++[(x,y)]):=by unfold Hid;rw[Rf.tys,F,l,m]
   have I:=Bc l;have J:=Bc m;go_wp2_with fail;refine(Ge s (i+2*(k:Int)) _ g).mono ?_;rw[Ba I];rintro e K ⟨rfl,rfl⟩;go_wp2_with fail;refine(Ge s (i+2*(k:Int)+1) _ g).mono ?_;rw[Ba J];rintro e K ⟨rfl,rfl⟩;go_wp2_with (at_builtin;refine Br3 _ rfl _ _ 105 rfl w.heap.size 31 t _ 2 16 Bsk z A B C rfl Fm _ _ _ rfl (b.alloc _) ⟨wr.heap.size,0,none⟩ 1 1 [.i x,.i y] rfl rfl ?c1 ?c2 ?c3 ?c4 ?c5 ?_)
   case c1=>exact Dh _ _ _ _ rfl
   case c2=>intro u q;simp at q;rcases q with rfl|rfl<;>rfl
   case c3=>unfold maxLen;omega
   case c4=>omega
   case c5=>simp;omega
   intro L N O Q _;have V:N.ownsRow w.heap.size 31 2 L (k+1) (Bp (Rf.tys s.data.toList i (k+1))):=by
    rw[Ba G,Uf];exact O
   have Y:=(f.alloc D (O7 x y)).grown Q Fr (fun j Z=>(b.lt j Z).1);go_wp2;go_roundw
   case rel=>exact⟨k+1,Ck,Mg,V,Y⟩
   case measure=>simp[intOf];omega
  obtain rfl:k=n.toNat:=Ck;obtain⟨va,vc,rfl⟩:=Bh b;go_wp2;go_ret;refine⟨_,_,rfl,?_,f⟩;unfold Cq;rw[Mx];exact b
def Zk(s:ByteArray)(i:Int)(w:TW)(b:s.size<=maxLen)(F:0<=i)(G:i<=100000):Calls prog 137 #[.string s,.i i] w fun e j => ∃x a n c,e=.r (.tuple #[.agg #[.i x,.s a n c],.i (Rf.cls s.data.toList i).2])/\(0<=(Rf.cls s.data.toList i).2->x=(Rf.cls s.data.toList i).1.above/\Cq j w.heap.size (.s a n c) (Rf.cls s.data.toList i).1.fields)/\Bl w j:=by
 unfold Rf.cls;generalize l:Rf.cnt s.data.toList (i+1) 0 4=r;have m:=Rf.cnt_bd s.data.toList (i+1) 0 4 Ck;rw[l]at m;obtain⟨I,g⟩:=m;have p:=Bc l;by_cases q:r<0;·rw[Th q];go_in;go_wp2_with fail;refine(Dx s (i+1) 0 4 _ b).mono ?_;rw[Ba p];rintro e f ⟨rfl,rfl⟩;go_wp2_with fail;refine tb (.tuple #[.agg #[.i 0,.s none 0 0],.i (-1)]) (by simp[results,results137,go_sem]) ?_;exact⟨0,none,0,0,rfl,fun h=>absurd h Fm,QN _⟩
 rw[Pk q];generalize A:Rf.at' s.data.toList i=x;have B:=Bc A;go_in;go_wp2_with fail;refine(Dx s (i+1) 0 4 _ b).mono ?_;rw[Ba p];rintro e f ⟨rfl,rfl⟩;go_wp2_with fail;refine(Ge s i _ b).mono ?_;rw[Ba B];rintro e f ⟨rfl,rfl⟩;go_wp2_with fail;refine(J8 s (i+2) r _ b Ck Ck Ck Ck).mono ?_;rintro e f ⟨a,c,rfl,C,g⟩;have t:=(g.block w.heap.size Hd).trans (Be w _);obtain⟨v,z⟩:=cl2 t;obtain⟨J,K⟩:=fr2 t;simp at v z;have D:Bl w f:=(QN _).trans (g.mono Hd);go_wp2_with fail;refine tb (.tuple #[.agg #[.i x,.s a r.toNat c],.i (i+2+2*r)]) (by simp[results,results137,go_sem,v,z]) ?_;refine⟨_,_,_,_,rfl,fun _=>⟨rfl,?_⟩,(D.setCell Hd _).setCell Hd _⟩;exact D6 (Bt9 (Bt9 C Hd _) Hd _) Hd
def Tryz.infoRMap:(prog.info? 168).map (fun i=>(i.zero,i.size,i.bytes))=some (some (.agg #[.i 0,.s none 0 0,.s none 0 0]),3,56):=Lt
def Yn{α:Type}{f:Int->α×Int}{k:Nat}{c:Int}(e:0<=(Rf.rep f k c).2)(h:(f (Rf.rep f k c).2).2<0)(m:Nat)(g:k<m):(Rf.rep f m c)=([],-1):=by
 have b:Rf.rep f (k+1) c=([],-1):=by
  unfold Rf.rep;rw[Pk Ck,Th h]
 have:∀n,Rf.rep f (k+1+n) c=([],-1):=by
  intro n
  induction n with
  | zero=>exact b
  | succ j ih =>
   rw[show k+1+(j+1)=(k+1+j)+1 by omega];unfold Rf.rep;rw[ih,Th Hd]
 obtain⟨n,rfl⟩:∃n,m=k+1+n:=⟨m-(k+1),Ck⟩;exact this n
def Bot{s:TB}{L H i:Int}(h:0<=(Rf.mp s L H i).2)(e:H<=8)(f:L<=8)(g:0<=L):(Rf.mp s L H i).2<=i+34/\i<=(Rf.mp s L H i).2:=by
 unfold Rf.mp at h ⊢
 split
 ·rename_i c;rw[Th c]at h;simp at h
 rename_i c;by_cases b:-1<=H;·have:=Rf.cnt_bd s (i+1+2*L) 0 H b;simp only;omega
 exfalso
 unfold Rf.cnt at c;have:=Rf.at_bd s (i+1+2*L)
 split at c
 ·omega
 split at c<;>omega
def Bjh(s:ByteArray)(i L H:Int)(w:TW)(f:s.size<=maxLen)(d2:0<=i)(d3:i<=100000)(b8:0<=L)(d4:L<=8)(d5:0<=H)(d6:H<=8):Calls prog 200 #[.string s,.i i,.i L,.i H] w fun e w' => ∃a n c l,e=.r (.tuple #[.s a n c,.i (Rf.mps s.data.toList i L H).2])/\l.map Prod.fst=(Rf.mps s.data.toList i L H).1/\K4 w' w.heap.size (.s a n c) l/\Bl w w':=by
 obtain⟨i0,hi,b9,c0,c6⟩:=Bsa Tryz.infoRMap;unfold Rf.mps;generalize Q:Rf.cnt s.data.toList i 0 64=r;have hb:=Rf.cnt_bd s.data.toList i 0 64 Ck;rw[Q]at hb;obtain⟨d7,G⟩:=hb;have HR:=Bc Q;clear Q;by_cases h0:r<0;·rw[Th h0];go_in;go_wp2_with fail;refine(Dx s i 0 64 _ f).mono ?_;rw[Ba HR];rintro e A ⟨rfl,rfl⟩;go_wp2;go_ret2;exact⟨none,0,0,[],rfl,rfl,⟨Brw _ _ _ _,Hd⟩,Brm _ _⟩
 rw[Pk h0];generalize g:Rf.rep (Rf.mp s.data.toList L H) r.toNat (i+1)=z;have HZ:=Bc g;clear g;go_in;go_wp2_with fail;refine(Dx s i 0 64 _ f).mono ?_;rw[Ba HR];rintro e A ⟨rfl,rfl⟩;go_wp2
 go_loopw [1,11,12] (fun p v j wr=>∃(k:Nat) (q:Int) (l:List (Rd.Mp×Value×Value)),(k:Int)<=r/\j=.i k/\p=.i q/\l.length=k/\0<=q/\q<=i+1+34*(k:Int)/\Hid (Rf.rep (Rf.mp s.data.toList L H) k (i+1)=(l.map Prod.fst,q)) /\
   K4 wr w.heap.size v l/\Bl w wr)
  (fun _ _ j _=>r.toNat-(intOf j).toNat)
 case atStart=>exact⟨0,_,[],Ck,rfl,rfl,rfl,Ck,Ck,rfl,⟨Brw _ _ _ _,Hd⟩,Brm _ _⟩
 case round=>
  obtain⟨k,q,l,hk,rfl,rfl,I,a8,d8,J,K,B⟩:=hrel;have a9:=B.size;by_cases d9:(k:Int)<r
  ·generalize C:Rf.at' s.data.toList q=x;generalize t:Rf.cnt s.data.toList (q+1+2*L) 0 H=h;have b0:=Rf.cnt_bd s.data.toList (q+1+2*L) 0 H Ck;rw[t]at b0;obtain⟨f0,f1⟩:=b0;by_cases b1:h<0
   ·have g:z=([],-1):=by
     rw[<- Ba HZ];refine Yn (k:=k) ?_ ?_ _ Ck
     ·rw[Ba J];exact a8
     rw[Ba J];unfold Rf.mp;rw[t,Th b1]
     decide
    have D:=Bc g;have V:=Bc C;have Y:=Bc t;clear g C t I;go_wp2_with fail;refine(Ge s q _ f).mono ?_;rw[Ba V];rintro e A ⟨rfl,rfl⟩;go_wp2_with fail;refine(Dx s (q+1+2*L) 0 H _ f).mono ?_;rw[Ba Y];rintro e A ⟨rfl,rfl⟩;go_wp2;go_ret2;exact⟨none,0,0,[],by rw[Ba D];rfl,by rw[Ba D];rfl,⟨Brw _ _ _ _,Hd⟩,B⟩
   generalize Z:Rf.tys s.data.toList (q+1) L.toNat=q2;generalize a0:Rf.tys s.data.toList (q+2+2*L) h.toNat=q4;have b2:Rf.mp s.data.toList L H q=(⟨x,q2,q4⟩,q+2+2*L+2*h):=by
    unfold Rf.mp;rw[t,Pk b1,C,Z,a0]
   have HE:Hid (Rf.rep (Rf.mp s.data.toList L H) (k+1) (i+1)=(l.map Prod.fst++[⟨x,q2,q4⟩],q+2+2*L+2*h)):=Rf.rep_step (Ba J) a8 b2 Ck;have V:=Bc C;have Y:=Bc t;have c7:=Bc Z;have c8:=Bc a0;have a3:=Bc I;clear C t Z a0 b2 I;go_wp2_with fail;refine(Ge s q _ f).mono ?_;rw[Ba V];rintro e A ⟨rfl,rfl⟩;go_wp2_with fail;refine(Dx s (q+1+2*L) 0 H _ f).mono ?_;rw[Ba Y];rintro e A ⟨rfl,rfl⟩;go_wp2_with fail;refine(J8 s (q+1) L _ f Ck Ck b8 Ck).mono ?_;rw[Ba c7];rintro e A ⟨a1,c1,rfl,b3,G⟩;have a4:=B.trans (G.mono a9);have b4:=a4.size;go_wp2_with fail;refine(J8 s (q+2+2*L) h _ f Ck Ck Ck Ck).mono ?_;rw[Ba c8];rintro e w2 ⟨a2,c2,rfl,b5,N⟩;have a5:=a4.trans (N.mono b4);have c9:=a5.size;have T1:=(b3.mono a9).kp (Kp.of_below (e:=none) N) Fm;have T2:=b5.mono b4;have a6:=(K.kp (Kp.of_below (e:=none) G) Fm Fm).kp (Kp.of_below (e:=none) N) Fm Fm;have b6:=Bc a6.2;have O:=a6.1;clear b3 b5 K a6 B a4 G N;go_wp2_with (at_builtin;refine Br3 _ rfl _ _ 107 rfl w.heap.size 168 i0 _ 3 56 underlying107 hi b9 c0 c6 rfl Fm _ _ _ rfl (O.alloc _) ⟨w2.heap.size,0,none⟩ 1 1 [.i x,.s a1 L.toNat c1,.s a2 h.toNat c2] rfl rfl ?c1 ?c2 ?c3 ?c4 ?c5 ?_)
   case c1=>exact Dh _ _ _ _ rfl
   case c2=>intro u hu;simp at hu;rcases hu with rfl|rfl|rfl<;>rfl
   case c3=>have:=Ba a3;unfold maxLen;omega
   case c4=>have:=Ba a3;omega
   case c5=>simp;omega
   intro v' w3 b7 a7 _;have d0:=(a5.alloc c9 (O9 x a1 L.toNat c1 a2 h.toNat c2)).grown a7 Fr (fun j hj=>(O.lt j hj).1);have F:=(Kp.alloc (e:=some 168) (b:=w.heap.size) _ _).trans (Kp.of_grown a7 (O.alloc _));have d1:K4 w3 w.heap.size v' (l++[(⟨x,q2,q4⟩,.s a1 L.toNat c1,.s a2 h.toNat c2)]):=by
    refine⟨?_,?_⟩
    ·rw[Xx,Ws];exact b7
    intro p m;rw[Bs1]at m;rcases m with m|m
    ·exact⟨(Ba b6 p m).1.kp F Fm,(Ba b6 p m).2.kp F Fm⟩
    simp only[Bth]at m;subst m;exact⟨T1.kp F Fm,T2.kp F Fm⟩
   clear a7 O b7 F T1 T2 a5;go_wp2;go_roundw
   case rel=>exact⟨k+1,_,_,Ck,Mg,rfl,by rw[Ws,Ba a3];rfl,Ck,Ck,by unfold Hid;rw[Ba HE,Bse];rfl,d1,d0⟩
   case measure=>simp[intOf];omega
  obtain rfl:k=r.toNat:=Ck;have g:z=(l.map Prod.fst,q):=by rw[<- Ba HZ];exact Ba J
  have D:=Bc g;clear g I;obtain⟨va,vc,rfl⟩:=Bh K.1;go_wp2;go_ret2;exact⟨_,_,_,by rw[Ba D];rfl,l,by rw[Ba D],K,B⟩
def Ze{P:Program}{B:Array Oper}{o:Oper}{a:Act}{w:TW}{K:Act->TW->Prop}{Q:Exit->Act->TW->Prop}{E:Prop} (C:o.guard=none)(s x:Operand)(t:TypeId)(D:o.op=Op.call { callee:=Callee.builtin Builtin.append,args:=#[s,x],argTypes:=#[t,t] }) (h:Nat)(e:TypeId)(i:TypeInfo)(z:TX)(b p:Nat)(F:P.underlying t=some (.s e))(G:P.info? e=some i)(I:i.zero=some z)(J:i.size=b)(L:i.bytes=p)(N:z.cells.size=b)(O:0<b) (v:TX)(n:Nat)(q:TV)(V:a.eval s=v)(Y:w.ownsRow h e b v n q) (A:Addr)(m c:Nat)(f:TV)(Z:a.eval x=.s (some A) m c)(hn:f.length=m*b)(hc:∀j u,f[j]?=some u->w.cell? (A.add j)=some u)(a0:∀u∈f,u.oneCell'=true) (b1:n+m<=maxLen)(b2:(n+m)*p<=140737488355328)(b3:h<=w.heap.size) (hK:∀l g,g.ownsRow h e b l (n+m) (q++f)->w.grownBy g v.ownBlock->K (a.put o.dst l) g):if Region.wanted o (yielded B a.tmps)=true then Oper.wp P o a w K Q else E:=by
 have hw:Region.wanted o (yielded B a.tmps)=true:=by simp[Region.wanted,C]
 rw[Th hw];obtain⟨l,g,a1,r1,r2,_⟩:=run_append_own (P:=P) w h t o.type e i z b p F G I J L N O v n q Y A m c f hn hc a0 b1 b2 b3;unfold Oper.wp;simp[execOp,D,resolve,invoke,builtin,V,Z,a1,Result.andThen];exact hK l g r1 r2
def Tryz.infoRHandler:(prog.info? 164).map (fun i=>(i.zero,i.size,i.bytes))=some (some (.agg #[.i 0,.i 0,.i 0,.i 0]),4,32):=Lt
def Bbf(s:TB)(i:Int)(n:Nat):(Rf.hndTo s i n).length=n:=by
 induction n with
 | zero=>rfl
 | succ k ih=>simp[Rf.hndTo,ih]
def Cx(n:Int)(b:-9223372036854775808<=n)(c:n<=9223372036854775807):IntKind.i64.wrap n=n:=by
 rw[Go.IntWalk.i64_left,Go.IntWalk.wrap64_in _ ⟨b,c⟩]
theorem Bas(s:ByteArray)(i:Int)(w:World)(f:s.size<=maxLen)(a5:0<=i)(a6:i<=100000):Calls prog 199 #[.string s,.int .i64 i] w fun e m => ∃a n c,e=.returned (.tuple #[.slice a n c,.int .i64 (Rf.hnds s.data.toList i).2])/\Iz m w.heap.size (.slice a n c) (Rf.hnds s.data.toList i).1/\Below w.heap.size w m:=by
 obtain⟨D,F,G,I,J⟩:=Bsa Tryz.infoRHandler;have K:s.data.toList.length=s.size:=Hd;unfold Rf.hnds;rw[K];generalize g:Rf.cnt s.data.toList i 0 4=r;have p:=Rf.cnt_bd s.data.toList i 0 4 Ck;rw[g]at p;obtain⟨a7,a8⟩:=p;have h:=Bc g;clear g;by_cases t:r<0;·rw[Th t];go_in;go_wp2_with fail;refine(Dx s i 0 4 _ f).mono ?_;rw[Ba h];rintro e z ⟨rfl,rfl⟩;go_wp2;go_ret2;exact⟨none,0,0,rfl,Brw _ _ _ _,Brm _ _⟩
 rw[Pk t];by_cases A:(s.size:Int)<i+1+4*r;·rw[Th A];go_in;go_wp2_with fail;refine(Dx s i 0 4 _ f).mono ?_;rw[Ba h];rintro e z ⟨rfl,rfl⟩;go_wp2;go_ret2;exact⟨none,0,0,rfl,Brw _ _ _ _,Brm _ _⟩
 rw[Pk A];unfold Iz;dsimp only;rw[Bbf];have d0:decide (r<0)=false:=Fr;have d1:decide ((s.size:Int)<i+1+4*r)=false:=Fr;go_in;go_wp2_with fail;refine(Dx s i 0 4 _ f).mono ?_;rw[Ba h];rintro e z ⟨rfl,rfl⟩;go_wp2
 go_loopw [7,8] (fun v j wr=>∃k:Nat,(k:Int)<=r/\j=.int .i64 k/\wr.ownsRow w.heap.size 164 4 v k (Ev (Rf.hndTo s.data.toList i k))/\Below w.heap.size w wr)
  (fun _ j _=>r.toNat-(intOf j).toNat)
 case atStart=>exact⟨0,Ck,rfl,Brw _ _ _ _,Brm _ _⟩
 case round=>
  obtain⟨k,hk,rfl,b,l⟩:=hrel;have L:=l.size;by_cases a9:(k:Int)<r
  ·obtain⟨q,N⟩:=Brp (show 0<=i+1+4*(k:Int) by omega);have O:q+3<s.size:=Ck;have Q:q+2<s.size:=Ck;have V:q+1<s.size:=Ck;have Y:q<s.size:=Ck;have z3:(q:Int)+3<(s.size:Int):=Ck;have z2:(q:Int)+2<(s.size:Int):=Ck;have z1:(q:Int)+1<(s.size:Int):=Ck;have Z:Hid (Ev (Rf.hndTo s.data.toList i (k+1))=Ev (Rf.hndTo s.data.toList i k)++[.int .i64 (s[q].toNat:Int),.int .i64 (s[q+1].toNat:Int),.int .i64 (s[q+2].toNat:Int),.int .i64 (s[q+3].toNat:Int)]):=by
    unfold Hid;rw[Rf.hndTo,X7,N];unfold Rf.hndAt;have a1:Rf.at' s.data.toList ((q:Int)+1)=_:=Ry (i:=q+1) V;have a2:Rf.at' s.data.toList ((q:Int)+2)=_:=Ry (i:=q+2) Q;have a3:Rf.at' s.data.toList ((q:Int)+3)=_:=Ry (i:=q+3) O;rw[Ry Y,a1,a2,a3]
   have b0:IntKind.i64.wrap ((q:Int)+1)=(q:Int)+1:=Cx _ Ck Ck;have b1:IntKind.i64.wrap ((q:Int)+2)=(q:Int)+2:=Cx _ Ck Ck;have b2:IntKind.i64.wrap ((q:Int)+3)=(q:Int)+3:=Cx _ Ck Ck;have b3:∀c:UInt8,IntKind.i64.wrap (c.toNat:Int)=(c.toNat:Int):=fun c=>Cx _ Ck (by have:=c.toNat_lt;omega);have y1:0<=(q:Int)+1:=Ck;have y2:0<=(q:Int)+2:=Ck;have y3:0<=(q:Int)+3:=Ck;have e1:((q:Int)+1).toNat=q+1:=Ck;have e2:((q:Int)+2).toNat=q+2:=Ck;have e3:((q:Int)+3).toNat=q+3:=Ck;go_wp2
   go_region_held3 (fun _=>True) (exact trivial) ((refine Ze Ls _ _ _ Ls w.heap.size 164 D _ 4 32 underlying106 F G I J rfl Ck _ _ _ Ls ((b.alloc _).drew) ⟨wr.heap.size,0,none⟩ 1 1 [.int .i64 (s[q].toNat:Int),.int .i64 (s[q+1].toNat:Int),.int .i64 (s[q+2].toNat:Int),.int .i64 (s[q+3].toNat:Int)] Ls Ls (Dh wr _ _ _ rfl) (by simp[Value.oneCell']) Pf Ck Fr ?_;intro v' w2 B C))
   all_goals
    have a0:w2.ownsRow w.heap.size 164 4 v' (k+1) (Ev (Rf.hndTo s.data.toList i (k+1))):=by rw[Ba Z];exact B
    have a4:=((l.alloc L _).drew).grown C Fr (fun j hj=>(b.lt j hj).1);clear C B;go_wp2;go_roundw
    case rel=>exact⟨k+1,Ck,Mg,a0,a4⟩
    case measure=>simp[intOf];omega
  obtain rfl:k=r.toNat:=Ck;obtain⟨va,vc,rfl⟩:=Bh b;go_wp2;go_ret2;exact⟨_,_,_,rfl,b,l⟩
def Bma(s:ByteArray)(i p:Int)(w:TW)(f:s.size<=maxLen)(a0:0<=i)(a1:i<=50000)(j:Hid (Rf.cnt s.data.toList (i+2) 0 4=p))(h:p<0):Calls prog 138 #[.string s,.i i] w fun e l => ∃b c m q t v z A B C D F G I J K L N,e=.r (.tuple #[.agg #[.i b,.i c,.s m q t,.i v,.i z,.i A,.i B,.string C,.s D F G,.s I J K,.i L,.i N],.i (-1)])/\Bl w l:=by
 have O:∃b c,Rf.at' s.data.toList i=b/\Rf.at' s.data.toList (i+1)=c:=⟨_,_,rfl,rfl⟩;obtain⟨b,c,Q,V⟩:=O;have Y:=Bc Q;have Z:=Bc V;go_in;go_wp2_with fail;refine(Ge s i _ f).mono ?_;rw[Ba Y];rintro e g ⟨rfl,rfl⟩;go_wp2_with fail;refine(Ge s (i+1) _ f).mono ?_;rw[Ba Z];rintro e g ⟨rfl,rfl⟩;go_wp2_with fail;refine(Dx s (i+2) 0 4 _ f).mono ?_;rw[Ba j];rintro e g ⟨rfl,rfl⟩;go_wp2_with fail;refine tb (.tuple #[.agg #[.i b,.i c,.s none 0 0,.i 0,.i 0,.i 0,.i 0,.string ⟨#[]⟩,.s none 0 0,.s none 0 0,.i 0,.i 0],.i (-1)]) (by simp[results,Bva,go_sem]) ?_;exact⟨b,c,_,_,_,_,_,_,_,_,_,_,_,_,_,_,_,_,rfl,(QN _).alloc Hd _⟩
def Vp(s:ByteArray)(i p l h n:Int)(w:TW)(b:s.size<=maxLen)(c6:0<=i)(c7:i<=50000)(HP:Hid (Rf.cnt s.data.toList (i+2) 0 4=p))(HL:Hid (Rf.cnt s.data.toList (i+3+2*p+2) 0 8=l))(HH:Hid (Rf.cnt s.data.toList (i+3+2*p+3) 0 8=h))(HN:Hid (Rf.cnt s.data.toList (i+3+2*p+4) 1 120=n))(d0:0<=p)(d1:p<=4)(g:l<0\/(0<=l/\h<0)\/(0<=l/\0<=h/\n<0)\/(0<=l/\0<=h/\0<=n/\n<=120/\(s.size:Int)<i+3+2*p+5+n)):Calls prog 138 #[.string s,.i i] w fun e w' => ∃j m c n2 f x3 x4 x5 x6 sb a8 n8 c8 a9 n9 c9 a4 a5,e=.r (.tuple #[.agg #[.i j,.i m,.s c n2 f,.i x3,.i x4,.i x5,.i x6,.string sb,.s a8 n8 c8,.s a9 n9 c9,.i a4,.i a5],.i (-1)])/\Bl w w':=by
 have G1:∃j m F z A,Rf.at' s.data.toList i=j/\Rf.at' s.data.toList (i+1)=m/\Rf.tys s.data.toList (i+3) p.toNat=F/\Rf.at' s.data.toList (i+3+2*p)=z/\Rf.at' s.data.toList (i+3+2*p+1)=A:=⟨_,_,_,_,_,rfl,rfl,rfl,rfl,rfl⟩;obtain⟨j,m,F,z,A,a6,a7,b0,b3,b4⟩:=G1;have b5:=Bc a6;have b6:=Bc a7;have b7:=Bc b0;have b8:=Bc b3;have b9:=Bc b4;go_in;go_wp2_with fail;refine(Ge s i _ b).mono ?_;rw[Ba b5];rintro e q ⟨rfl,rfl⟩;go_wp2_with fail;refine(Ge s (i+1) _ b).mono ?_;rw[Ba b6];rintro e q ⟨rfl,rfl⟩;go_wp2_with fail;refine(Dx s (i+2) 0 4 _ b).mono ?_;rw[Ba HP];rintro e q ⟨rfl,rfl⟩;go_wp2_with fail;refine(J8 s (i+3) p _ b Ck Ck Ck Ck).mono ?_;rw[Ba b7];rintro e w1 ⟨c,f,rfl,T1,B⟩;have t:=stay B (Bx w _ _);have C1:=stay B (Cb w _ _);have G:=(Bu w _ _).trans (B.mono Fr);have s1:=G.size;have C:=Bb t 2;have f2:=Bk t 2;simp at C;go_wp2_with fail;refine(J8 s (i+3+2*p) 1 _ b Ck Ck Ck Ck).mono ?_;rintro e w2 ⟨ar,cr,rfl,TR,v⟩;have D:=stay v (Bt (i:=2) t (.s c p.toNat f));have I:=stay v (Du C1 (p:=.a (w.heap.size+1) 2) Hd (.s c p.toNat f));simp at D;have J:=(G.setCell (p:=.a (w.heap.size+1) 2) Hd (.s c p.toNat f)).trans (v.mono Fr);have T2:=((T1.mono (b':=w.heap.size) Fr).kp (Kp.set (i:=2) t (.s c p.toNat f)) Fm).kp (Kp.of_below (e:=none) v) Fm;have s2:=J.size;obtain⟨gr,c0,d2,c1,K⟩:=Cf TR (by rw[Mx];decide);have L:=K 0 (by simp[Bp,Rf.tys]);have N:=K 1 (by simp[Bp,Rf.tys]);simp[Bp,Rf.tys]at L N;rw[Ba b8]at L;rw[Ba b9]at N;have d3:gr≠w.heap.size+1:=by
  have hh:=Sp t;simp at c1;omega
 subst c0;obtain⟨k0,k1,C,k3,k4,k5,k6,k7,k8,k9,c3,c4⟩:=El D;obtain⟨f0,f1,f2,f3,f4,f5,f6,f7,f8,f9,d4,d5⟩:=Sd D;obtain⟨O,Q,V,Y,Z,z5,z6,z7,z8,z9,a0,a1⟩:=El I;obtain⟨g0,g1,g2,g3,g4,g5,g6,g7,g8,g9,g10,d6⟩:=Sd I;simp at k0 k1 C k3 k4 k5 k6 k7 k8 k9 c3 c4 O Q V Y Z z5 z6 z7 z8 z9 a0 a1;go_wp2_with fail;refine(Dx s (i+3+2*p+2) 0 8 _ b).mono ?_;rw[Ba HL];rintro e q ⟨rfl,rfl⟩;go_wp2_with fail;refine(Dx s (i+3+2*p+3) 0 8 _ b).mono ?_;rw[Ba HH];rintro e q ⟨rfl,rfl⟩;go_wp2_with fail;refine(Dx s (i+3+2*p+4) 1 120 _ b).mono ?_;rw[Ba HN];rintro e q ⟨rfl,rfl⟩;rcases g with g|⟨a3,g⟩|⟨a3,c5,g⟩|⟨a3,c5,d7,d8,g⟩
 all_goals
  go_wp2_with fail;refine tb (.tuple #[.agg #[.i j,.i m,.s c p.toNat f,.i z,.i A,.i l,.i h,.string ⟨#[]⟩,.s none 0 0,.s none 0 0,.i 0,.i 0],.i (-1)]) (by simp[results,Bva,go_sem,O,Q,V,Y,Z,z5,z6,z7,z8,z9,a0,a1]) ?_;exact⟨_,_,_,_,_,_,_,_,_,_,_,_,_,_,_,_,_,_,rfl,by repeat (first|refine Bry ?_ Hd _|exact J)⟩
def Bl9(s:ByteArray)(i p l h:Int)(j n:Nat)(hq:List Rd.Hnd×Int)(w:TW)(b:s.size<=maxLen)(d2:0<=i)(d3:i<=50000)(HP:Hid (Rf.cnt s.data.toList (i+2) 0 4=p))(hj:i+3+2*p=(j:Int))(HL:Hid (Rf.cnt s.data.toList ((j:Int)+2) 0 8=l))(HH:Hid (Rf.cnt s.data.toList ((j:Int)+3) 0 8=h))(HN:Hid (Rf.cnt s.data.toList ((j:Int)+4) 1 120=(n:Int)))(d4:0<=p)(d5:p<=4)(d6:0<=l)(d7:l<=8)(d8:0<=h)(d9:h<=8)(h0:n<=120)(h1:j+5+n<=s.size)(HQ:Hid (Rf.hnds s.data.toList ((j:Int)+5+(n:Int))=hq))(h2:hq.2<0):Calls prog 138 #[.string s,.i i] w fun e w' => ∃m q f n2 g x3 x4 x5 x6 sb a8 n8 c8 a9 n9 c9 a7 b0,e=.r (.tuple #[.agg #[.i m,.i q,.s f n2 g,.i x3,.i x4,.i x5,.i x6,.string sb,.s a8 n8 c8,.s a9 n9 c9,.i a7,.i b0],.i (-1)])/\Bl w w':=by
 have G1:∃m q ps Y Z,Rf.at' s.data.toList i=m/\Rf.at' s.data.toList (i+1)=q/\Rf.tys s.data.toList (i+3) p.toNat=ps/\Rf.at' s.data.toList (j:Int)=Y/\Rf.at' s.data.toList ((j:Int)+1)=Z:=⟨_,_,_,_,_,rfl,rfl,rfl,rfl,rfl⟩;obtain⟨m,q,ps,Y,Z,b4,b5,b6,b7,b8⟩:=G1;have b9:=Bc b4;have c0:=Bc b5;have c1:=Bc b6;have c3:=Bc b7;have c4:=Bc b8;go_in;go_wp2_with fail;refine(Ge s i _ b).mono ?_;rw[Ba b9];rintro e t ⟨rfl,rfl⟩;go_wp2_with fail;refine(Ge s (i+1) _ b).mono ?_;rw[Ba c0];rintro e t ⟨rfl,rfl⟩;go_wp2_with fail;refine(Dx s (i+2) 0 4 _ b).mono ?_;rw[Ba HP];rintro e t ⟨rfl,rfl⟩;go_wp2_with fail;refine(J8 s (i+3) p _ b Ck Ck Ck Ck).mono ?_;rw[Ba c1];rintro e w1 ⟨f,g,rfl,T1,b1⟩;have v:=stay b1 (Bx w _ _);have C1:=stay b1 (Cb w _ _);have a3:=(Bu w _ _).trans (b1.mono Fr);have s1:=a3.size;have z:=Bb v 2;have f2:=Bk v 2;simp at z;go_wp2_with fail;refine(J8 s (j:Int) 1 _ b Ck Ck Ck Ck).mono ?_;rintro e w2 ⟨ar,cr,rfl,TR,A⟩;have c:=stay A (Bt (i:=2) v (.s f p.toNat g));have C2:=stay A (Du C1 (p:=.a (w.heap.size+1) 2) Hd (.s f p.toNat g));simp at c;have a4:=(a3.setCell (p:=.a (w.heap.size+1) 2) Hd (.s f p.toNat g)).trans (A.mono Fr);have T2:=((T1.mono (b':=w.heap.size) Fr).kp (Kp.set (i:=2) v (.s f p.toNat g)) Fm).kp (Kp.of_below (e:=none) A) Fm;have s2:=a4.size;obtain⟨gr,c5,h3,c6,a5⟩:=Cf TR (by rw[Mx];decide);have r0:=a5 0 (by simp[Bp,Rf.tys]);have r1:=a5 1 (by simp[Bp,Rf.tys]);simp[Bp,Rf.tys]at r0 r1;rw[Ba c3]at r0;rw[Ba c4]at r1;have h4:gr≠w.heap.size+1:=by
  have hh:=Sp v;simp at c6;omega
 subst c5;obtain⟨k0,k1,z,k3,k4,k5,k6,k7,k8,k9,a0,a1⟩:=El c;obtain⟨f0,f1,f2,f3,f4,f5,f6,f7,f8,f9,c7,d0⟩:=Sd c;obtain⟨B,C,D,F,G,I,J,K,L,N,O,Q⟩:=El C2;obtain⟨g0,g1,g2,g3,g4,g5,g6,g7,g8,g9,g10,d1⟩:=Sd C2;simp at k0 k1 z k3 k4 k5 k6 k7 k8 k9 a0 a1 B C D F G I J K L N O Q;go_wp2_with fail;refine(Dx s ((j:Int)+2) 0 8 _ b).mono ?_;rw[Ba HL];rintro e t ⟨rfl,rfl⟩;go_wp2_with fail;refine(Dx s ((j:Int)+3) 0 8 _ b).mono ?_;rw[Ba HH];rintro e t ⟨rfl,rfl⟩;go_wp2_with fail;refine(Dx s ((j:Int)+4) 1 120 _ b).mono ?_;rw[Ba HN];rintro e t ⟨rfl,rfl⟩;have h5:j+5<=s.size:=Ck;have h6:(j:Int)+5+(n:Int)<=(s.size:Int):=Ck;go_wp2_with fail;refine(Bas s ((j:Int)+5+(n:Int)) _ b Ck Ck).mono ?_;rw[Ba HQ];rintro e w3 ⟨a8,n8,c8,rfl,T8,V⟩;have B3:=stay V (Bt (i:=7) (Bt (i:=6) (Bt (i:=5) (Bt (i:=4) (Bt (i:=3) c _) _) _) _) _);have C3:=stay V (Du (Du (Du (Du (Du C2 (p:=.a (w.heap.size+1) 3) Hd _) (p:=.a (w.heap.size+1) 4) Hd _) (p:=.a (w.heap.size+1) 5) Hd _) (p:=.a (w.heap.size+1) 6) Hd _) (p:=.a (w.heap.size+1) 7) Hd _);simp at B3;have a6:=(((((a4.setCell (p:=.a (w.heap.size+1) 3) Hd _).setCell (p:=.a (w.heap.size+1) 4) Hd _).setCell (p:=.a (w.heap.size+1) 5) Hd _).setCell (p:=.a (w.heap.size+1) 6) Hd _).setCell (p:=.a (w.heap.size+1) 7) Hd _).trans (V.mono Fr);have T3:=(T2.kp (((((Kp.set (i:=3) c _).trans (Kp.set (i:=4) (Bt (i:=3) c _) _)).trans (Kp.set (i:=5) (Bt (i:=4) (Bt (i:=3) c _) _) _)).trans (Kp.set (i:=6) (Bt (i:=5) (Bt (i:=4) (Bt (i:=3) c _) _) _) _)).trans (Kp.set (i:=7) (Bt (i:=6) (Bt (i:=5) (Bt (i:=4) (Bt (i:=3) c _) _) _) _) _)) Fm).kp (Kp.of_below (e:=none) V) Fm;have s3:=a6.size;have h7:=T8.mono (b':=w.heap.size) Fr;obtain⟨k0,k1,z,k3,k4,k5,k6,k7,k8,k9,a0,a1⟩:=El B3;obtain⟨f0,f1,f2,f3,f4,f5,f6,f7,f8,f9,c7,d0⟩:=Sd B3;obtain⟨B,C,D,F,G,I,J,K,L,N,O,Q⟩:=El C3;obtain⟨g0,g1,g2,g3,g4,g5,g6,g7,g8,g9,g10,d1⟩:=Sd C3;simp at k0 k1 z k3 k4 k5 k6 k7 k8 k9 a0 a1 B C D F G I J K L N O Q;go_wp2_with fail;refine tb (.tuple #[.agg #[.i m,.i q,.s f p.toNat g,.i Y,.i Z,.i l,.i h,.string (s.extract (j+5) (j+5+n)),.s none 0 0,.s none 0 0,.i 0,.i 0],.i (-1)]) (by simp[results,Bva,go_sem,B,C,D,F,G,I,J,K,L,N,O,Q]) ?_;exact⟨_,_,_,_,_,_,_,_,_,_,_,_,_,_,_,_,_,_,rfl,by repeat (first|refine Bry ?_ Hd _|exact a6)⟩
def Bnf(s:ByteArray)(a b:Nat)(e:a<=b)(c:b<s.size):(s.extract a (b+1)).data.toList=(s.extract a b).data.toList++[s[b]]:=by
 rw[Bwo,Bwo,Bwx,Bwx,Bv4,Bv4];rw[show b+1-a=(b-a)+1 by omega,Bss (by simp;have:s.data.size=s.size:=rfl;omega)]
 congr 1
 simp;rw[show (s[b]:UInt8)=s.data[b]'c from rfl]
 congr 1
 omega
def Bed(s:ByteArray)(j n:Nat)(h:j+5+n<=s.size):(s.extract (j+5) (j+5+n)).data.toList.map (fun c=>(c.toNat:Int))=Rf.codeTo s.data.toList ((j:Int)+5) n:=by
 induction n with
 | zero=>simp[Rf.codeTo]
 | succ k ih =>
  have e:(s.extract (j+5) (j+5+(k+1))).data.toList=(s.extract (j+5) (j+5+k)).data.toList++[s[j+5+k]'Ck]:=by
   exact Bnf s (j+5) (j+5+k) Ck Ck
  rw[e,Bse,ih Ck,Rf.codeTo];have a:Rf.at' s.data.toList ((j:Int)+5+(k:Int))=_:=Ry (i:=j+5+k) Ck;rw[a];rfl
def Bl8(s:ByteArray)(i p l h G I J K:Int)(ps:TP)(j n:Nat)(c:List Rd.Hnd×Int)(f:List Rd.Mp×Int)(w:TW)(g:s.size<=maxLen)(i1:0<=i)(i2:i<=50000)(HP:Hid (Rf.cnt s.data.toList (i+2) 0 4=p))(hj:i+3+2*p=(j:Int))(HL:Hid (Rf.cnt s.data.toList ((j:Int)+2) 0 8=l))(HH:Hid (Rf.cnt s.data.toList ((j:Int)+3) 0 8=h))(HN:Hid (Rf.cnt s.data.toList ((j:Int)+4) 1 120=(n:Int)))(i3:0<=p)(i4:p<=4)(c5:0<=l)(c6:l<=8)(c7:0<=h)(d0:h<=8)(i5:n<=120)(d1:j+5+n<=s.size)(HQ:Hid (Rf.hnds s.data.toList ((j:Int)+5+(n:Int))=c))(d2:0<=c.2)(i6:c.2<=100000)(HM:Hid (Rf.mps s.data.toList c.2 l h=f)) (d3:Hid (Rf.at' s.data.toList i=G))(d4:Hid (Rf.at' s.data.toList (i+1)=I))(d5:Hid (Rf.tys s.data.toList (i+3) p.toNat=ps))(d6:Hid (Rf.at' s.data.toList (j:Int)=J))(d7:Hid (Rf.at' s.data.toList ((j:Int)+1)=K)):Calls prog 138 #[.string s,.i i] w fun e w' => ∃m n2 q sb t v z A B C,e=.r (.tuple #[.agg #[.i G,.i I,.s m n2 q,.i J,.i K,.i l,.i h,.string sb,.s t v z,.s A B C,.i c.2,.i f.2],.i f.2])/\Pn w' w.heap.size ⟨⟨G,I,ps,(J,K),l,h,Rf.codeTo s.data.toList ((j:Int)+5) n,c.1,f.1⟩,c.2,f.2⟩ ⟨.s m n2 q,sb,.s t v z,.s A B C⟩/\Bl w w':=by
 go_in;go_wp2_with fail;refine(Ge s i _ g).mono ?_;rw[Ba d3];rintro e w0 ⟨rfl,rfl⟩;go_wp2_with fail;refine(Ge s (i+1) _ g).mono ?_;rw[Ba d4];rintro e w0 ⟨rfl,rfl⟩;go_wp2_with fail;refine(Dx s (i+2) 0 4 _ g).mono ?_;rw[Ba HP];rintro e w0 ⟨rfl,rfl⟩;go_wp2_with fail;refine(J8 s (i+3) p _ g Ck Ck Ck Ck).mono ?_;rw[Ba d5];rintro e w1 ⟨m,q,rfl,T1,b1⟩;have B1:=stay b1 (Bx w _ _);have C1:=stay b1 (Cb w _ _);have a6:=(Bu w _ _).trans (b1.mono Fr);have s1:=a6.size;have F:=Bb B1 2;have f2:=Bk B1 2;simp at F;go_wp2_with fail;refine(J8 s (j:Int) 1 _ g Ck Ck Ck Ck).mono ?_;rintro e w2 ⟨ar,cr,rfl,TR,b2⟩;have D:=stay b2 (Bt (i:=2) B1 (.s m p.toNat q));have C2:=stay b2 (Du C1 (p:=.a (w.heap.size+1) 2) Hd (.s m p.toNat q));simp at D;have a7:=(a6.setCell (p:=.a (w.heap.size+1) 2) Hd (.s m p.toNat q)).trans (b2.mono Fr);have T2:=((T1.mono (b':=w.heap.size) Fr).kp (Kp.set (i:=2) B1 (.s m p.toNat q)) Fm).kp (Kp.of_below (e:=none) b2) Fm;have s2:=a7.size;obtain⟨gr,d8,i7,d9,b0⟩:=Cf TR (by rw[Mx];decide);have r0:=b0 0 (by simp[Bp,Rf.tys]);have r1:=b0 1 (by simp[Bp,Rf.tys]);simp[Bp,Rf.tys]at r0 r1;rw[Ba d6]at r0;rw[Ba d7]at r1;have i8:gr≠w.heap.size+1:=by
  have hh:=Sp B1;simp at d9;omega
 subst d8;obtain⟨k0,k1,F,k3,k4,k5,k6,k7,k8,k9,a3,a4⟩:=El D;obtain⟨f0,f1,f2,f3,f4,f5,f6,f7,f8,f9,b5,b6⟩:=Sd D;obtain⟨L,N,O,Q,V,Y,Z,z7,z8,z9,a0,a1⟩:=El C2;obtain⟨g0,g1,g2,g3,g4,g5,g6,g7,g8,g9,g10,b7⟩:=Sd C2;simp at k0 k1 F k3 k4 k5 k6 k7 k8 k9 a3 a4 L N O Q V Y Z z7 z8 z9 a0 a1;go_wp2_with fail;refine(Dx s ((j:Int)+2) 0 8 _ g).mono ?_;rw[Ba HL];rintro e w0 ⟨rfl,rfl⟩;go_wp2_with fail;refine(Dx s ((j:Int)+3) 0 8 _ g).mono ?_;rw[Ba HH];rintro e w0 ⟨rfl,rfl⟩;go_wp2_with fail;refine(Dx s ((j:Int)+4) 1 120 _ g).mono ?_;rw[Ba HN];rintro e w0 ⟨rfl,rfl⟩;have i9:j+5<=s.size:=Ck;have j0:(j:Int)+5+(n:Int)<=(s.size:Int):=Ck;go_wp2_with fail;refine(Bas s ((j:Int)+5+(n:Int)) _ g Ck Ck).mono ?_;rw[Ba HQ];rintro e w3 ⟨t,v,z,rfl,T8,b3⟩;have B3:=stay b3 (Bt (i:=7) (Bt (i:=6) (Bt (i:=5) (Bt (i:=4) (Bt (i:=3) D _) _) _) _) _);have C3:=stay b3 (Du (Du (Du (Du (Du C2 (p:=.a (w.heap.size+1) 3) Hd _) (p:=.a (w.heap.size+1) 4) Hd _) (p:=.a (w.heap.size+1) 5) Hd _) (p:=.a (w.heap.size+1) 6) Hd _) (p:=.a (w.heap.size+1) 7) Hd _);simp at B3;have b8:=(((((a7.setCell (p:=.a (w.heap.size+1) 3) Hd _).setCell (p:=.a (w.heap.size+1) 4) Hd _).setCell (p:=.a (w.heap.size+1) 5) Hd _).setCell (p:=.a (w.heap.size+1) 6) Hd _).setCell (p:=.a (w.heap.size+1) 7) Hd _).trans (b3.mono Fr);have T3:=(T2.kp (((((Kp.set (i:=3) D _).trans (Kp.set (i:=4) (Bt (i:=3) D _) _)).trans (Kp.set (i:=5) (Bt (i:=4) (Bt (i:=3) D _) _) _)).trans (Kp.set (i:=6) (Bt (i:=5) (Bt (i:=4) (Bt (i:=3) D _) _) _) _)).trans (Kp.set (i:=7) (Bt (i:=6) (Bt (i:=5) (Bt (i:=4) (Bt (i:=3) D _) _) _) _) _)) Fm).kp (Kp.of_below (e:=none) b3) Fm;have s3:=b8.size;have h0:=T8.mono (b':=w.heap.size) Fr;obtain⟨k0,k1,F,k3,k4,k5,k6,k7,k8,k9,a3,a4⟩:=El B3;obtain⟨f0,f1,f2,f3,f4,f5,f6,f7,f8,f9,b5,b6⟩:=Sd B3;obtain⟨L,N,O,Q,V,Y,Z,z7,z8,z9,a0,a1⟩:=El C3;obtain⟨g0,g1,g2,g3,g4,g5,g6,g7,g8,g9,g10,b7⟩:=Sd C3;simp at k0 k1 F k3 k4 k5 k6 k7 k8 k9 a3 a4 L N O Q V Y Z z7 z8 z9 a0 a1;go_wp2_with fail;refine(Bjh s c.2 l h _ g d2 Ck c5 c6 c7 d0).mono ?_;rw[Ba HM];rintro e w4 ⟨A,B,C,ml,rfl,h1,T9,b4⟩;have B4:=stay b4 B3;have C4:=stay b4 C3;have h2:=b8.trans (b4.mono s3);have T4:=T3.kp (Kp.of_below (e:=none) b4) Fm;have h3:=h0.kp (Kp.of_below (e:=none) b4) Fm;have h4:=T9.mono (b':=w.heap.size) s3;have h5:=Bc h1;obtain⟨k0,k1,F,k3,k4,k5,k6,k7,k8,k9,a3,a4⟩:=El B4;obtain⟨f0,f1,f2,f3,f4,f5,f6,f7,f8,f9,b5,b6⟩:=Sd B4;obtain⟨L,N,O,Q,V,Y,Z,z7,z8,z9,a0,a1⟩:=El C4;obtain⟨g0,g1,g2,g3,g4,g5,g6,g7,g8,g9,g10,b7⟩:=Sd C4;simp at k0 k1 F k3 k4 k5 k6 k7 k8 k9 a3 a4 L N O Q V Y Z z7 z8 z9 a0 a1;go_wp2_with fail;refine tb (.tuple #[.agg #[.i G,.i I,.s m p.toNat q,.i J,.i K,.i l,.i h,.string (s.extract (j+5) (j+5+n)),.s t v z,.s A B C,.i c.2,.i f.2],.i f.2]) (by simp[results,Bva,go_sem,L,N,O,Q,V,Y,Z,z7,z8,z9,a0,a1]) ?_;have F0:=Kp.set (b:=w.heap.size) (i:=8) B4 (.s t v z);have P0:=Bt (i:=8) B4 (.s t v z);have R0:=Du C4 (p:=.a (w.heap.size+1) 8) Hd (.s t v z);have F1:=F0.trans (Kp.set (i:=9) P0 (.s A B C));have P1:=Bt (i:=9) P0 (.s A B C);have R1:=Du R0 (p:=.a (w.heap.size+1) 9) Hd (.s A B C);have F2:=F1.trans (Kp.set (i:=10) P1 (.i c.2));have P2:=Bt (i:=10) P1 (.i c.2);have R2:=Du R1 (p:=.a (w.heap.size+1) 10) Hd (.i c.2);have F3:=F2.trans (Kp.set (i:=11) P2 (.i f.2));have P3:=Bt (i:=11) P2 (.i f.2);have R3:=Du R2 (p:=.a (w.heap.size+1) 11) Hd (.i f.2);have F4:=F3.trans (Kp.set (i:=0) R3 (.i G));have R4:=Bt (i:=0) R3 (.i G);have F5:=F4.trans (Kp.set (i:=1) R4 (.i I));have R5:=Bt (i:=1) R4 (.i I);have F6:=F5.trans (Kp.set (i:=2) R5 (.s m p.toNat q));have R6:=Bt (i:=2) R5 (.s m p.toNat q);have F7:=F6.trans (Kp.set (i:=3) R6 (.i J));have R7:=Bt (i:=3) R6 (.i J);have F8:=F7.trans (Kp.set (i:=4) R7 (.i K));have R8:=Bt (i:=4) R7 (.i K);have F9:=F8.trans (Kp.set (i:=5) R8 (.i l));have R9:=Bt (i:=5) R8 (.i l);have h6:=F9.trans (Kp.set (i:=6) R9 (.i h));have b9:=Bt (i:=6) R9 (.i h);have h7:=h6.trans (Kp.set (i:=7) b9 (.string (s.extract (j+5) (j+5+n))));have c0:=Bt (i:=7) b9 (.string (s.extract (j+5) (j+5+n)));have h8:=h7.trans (Kp.set (i:=8) c0 (.s t v z));have c1:=Bt (i:=8) c0 (.s t v z);have h9:=h8.trans (Kp.set (i:=9) c1 (.s A B C));have c3:=Bt (i:=9) c1 (.s A B C);have i0:=h9.trans (Kp.set (i:=10) c3 (.i c.2));have c4:=Bt (i:=10) c3 (.i c.2);have a5:=i0.trans (Kp.set (i:=11) c4 (.i f.2));have j1:=Bt (i:=11) c4 (.i f.2);refine⟨_,_,_,_,_,_,_,_,_,_,rfl,⟨T4.kp a5 Fm,Bed s j n d1,h3.kp a5 Fm,ml,Ba h5,h4.kp a5 Fm Fm⟩,?_⟩
 repeat (first|refine Bry ?_ Hd _|exact h2)
def Tn (s:TB)(i:Int)(w:TW)(e:Ending)(w':TW):Prop :=
 ∃x0 x1 a2 n2 c2 x3 x4 x5 x6 sb a8 n8 c8 a9 n9 c9 x10 x11,e=.returned (.tuple #[.agg #[.int .i64 x0,.int .i64 x1,.slice a2 n2 c2,.int .i64 x3,.int .i64 x4,.int .i64 x5,.int .i64 x6,.string sb,.slice a8 n8 c8,.slice a9 n9 c9,.int .i64 x10,.int .i64 x11],.int .i64 (Rf.mth s i).2]) /\
    (0<=(Rf.mth s i).2->[.int .i64 x0,.int .i64 x1,.slice a2 n2 c2,.int .i64 x3,.int .i64 x4,.int .i64 x5,.int .i64 x6,.string sb,.slice a8 n8 c8,.slice a9 n9 c9,.int .i64 x10,.int .i64 x11]=Ly (Rf.mth s i).1 ⟨.slice a2 n2 c2,sb,.slice a8 n8 c8,.slice a9 n9 c9⟩ /\
     Pn w' w.heap.size (Rf.mth s i).1 ⟨.slice a2 n2 c2,sb,.slice a8 n8 c8,.slice a9 n9 c9⟩)/\Below w.heap.size w w'
def Bcu(s:ByteArray)(i:Int)(w:TW)(hs:s.size<=15000)(g:0<=i)(l:i<=50000):Calls prog 138 #[.string s,.i i] w fun e m=>Tn s.data.toList i w e m:=by
 have q:s.size<=maxLen:=Pf;have Q:s.data.toList.length=s.size:=Hd;have fail:(Rf.mth s.data.toList i).2 = -1->(Calls prog 138 #[.string s,.i i] w fun e m =>
   ∃V Y C D F Z x4 x5 x6 G I J K L N O a0 a1,e=.r (.tuple #[.agg #[.i V,.i Y,.s C D F,.i Z,.i x4,.i x5,.i x6,.string G,.s I J K,.s L N O,.i a0,.i a1],.i (-1)])/\Bl w m)->Calls prog 138 #[.string s,.i i] w fun e m=>Tn s.data.toList i w e m:=by
  intro hm hc;refine hc.mono ?_;rintro e m ⟨V,Y,C,D,F,Z,x4,x5,x6,G,I,J,K,L,N,O,a0,a1,rfl,hb⟩;refine⟨V,Y,C,D,F,Z,x4,x5,x6,G,I,J,K,L,N,O,a0,a1,by rw[hm],fun h=>?_,hb⟩;rw[hm]at h;exact absurd h Fm
 have b1:=Rf.cnt_bd s.data.toList (i+2) 0 4 Ck;by_cases c:Rf.cnt s.data.toList (i+2) 0 4<0;·refine fail ?_ (Bma s i _ w q g l (Bc rfl) c);unfold Rf.mth;simp only;rw[Th c]
 generalize b:Rf.cnt s.data.toList (i+2) 0 4=p at *;have a5:=Rf.cnt_bd s.data.toList (i+3+2*p+2) 0 8 Ck;have a6:=Rf.cnt_bd s.data.toList (i+3+2*p+3) 0 8 Ck;have a7:=Rf.cnt_bd s.data.toList (i+3+2*p+4) 1 120 Ck;by_cases f:Rf.cnt s.data.toList (i+3+2*p+2) 0 8<0;·refine fail ?_ (Vp s i p _ _ _ w q g l (Bc b) (Bc rfl) (Bc rfl) (Bc rfl) Ck Ck (.inl f));unfold Rf.mth;simp only;rw[b,Pk c,Th f]
 by_cases t:Rf.cnt s.data.toList (i+3+2*p+3) 0 8<0;·refine fail ?_ (Vp s i p _ _ _ w q g l (Bc b) (Bc rfl) (Bc rfl) (Bc rfl) Ck Ck (.inr (.inl ⟨Ck,t⟩)));unfold Rf.mth;simp only;rw[b,Pk c,Pk f,Th t]
 by_cases v:Rf.cnt s.data.toList (i+3+2*p+4) 1 120<0;·refine fail ?_ (Vp s i p _ _ _ w q g l (Bc b) (Bc rfl) (Bc rfl) (Bc rfl) Ck Ck (.inr (.inr (.inl ⟨Ck,Ck,v⟩))));unfold Rf.mth;simp only;rw[b,Pk c,Pk f,Pk t,Th v]
 by_cases z:(s.size:Int)<i+3+2*p+5+Rf.cnt s.data.toList (i+3+2*p+4) 1 120;·refine fail ?_ (Vp s i p _ _ _ w q g l (Bc b) (Bc rfl) (Bc rfl) (Bc rfl) Ck Ck (.inr (.inr (.inr ⟨Ck,Ck,Ck,Ck,z⟩))));unfold Rf.mth;simp only;rw[b,Pk c,Pk f,Pk t,Pk v,Q,Th z]
 obtain⟨j,A⟩:=Brp (show 0<=i+3+2*p by omega);obtain⟨n,B⟩:=Brp (show 0<=Rf.cnt s.data.toList (i+3+2*p+4) 1 120 by omega);have b2:=Rf.hnds_le s.data.toList ((j:Int)+5+(n:Int));have a3:n<=120:=Ck;have a4:j+5+n<=s.size:=Ck;rw[A]at f t v B a5 a6 a7 z;by_cases hq:(Rf.hnds s.data.toList ((j:Int)+5+(n:Int))).2<0;·refine fail ?_ (Bl9 s i p _ _ j n _ w q g l (Bc b) A (Bc rfl) (Bc rfl) (Bc B) Ck Ck Ck Ck Ck Ck a3 a4 (Bc rfl) hq);unfold Rf.mth;simp only;rw[b,A,Pk c,Pk f,Pk t,Pk v,Q,Pk z,B,Th hq]
 have hx:Rf.mth s.data.toList i=(⟨⟨Rf.at' s.data.toList i,Rf.at' s.data.toList (i+1),Rf.tys s.data.toList (i+3) p.toNat,(Rf.at' s.data.toList (j:Int),Rf.at' s.data.toList ((j:Int)+1)),Rf.cnt s.data.toList ((j:Int)+2) 0 8,Rf.cnt s.data.toList ((j:Int)+3) 0 8,Rf.codeTo s.data.toList ((j:Int)+5) n,(Rf.hnds s.data.toList ((j:Int)+5+(n:Int))).1,
   (Rf.mps s.data.toList (Rf.hnds s.data.toList ((j:Int)+5+(n:Int))).2 (Rf.cnt s.data.toList ((j:Int)+2) 0 8) (Rf.cnt s.data.toList ((j:Int)+3) 0 8)).1⟩,(Rf.hnds s.data.toList ((j:Int)+5+(n:Int))).2,(Rf.mps s.data.toList (Rf.hnds s.data.toList ((j:Int)+5+(n:Int))).2 (Rf.cnt s.data.toList ((j:Int)+2) 0 8) (Rf.cnt s.data.toList ((j:Int)+3) 0 8)).2⟩,
   (Rf.mps s.data.toList (Rf.hnds s.data.toList ((j:Int)+5+(n:Int))).2 (Rf.cnt s.data.toList ((j:Int)+2) 0 8) (Rf.cnt s.data.toList ((j:Int)+3) 0 8)).2):=by
  unfold Rf.mth;simp only;rw[b,A,Pk c,Pk f,Pk t,Pk v,Q,Pk z,B,Pk hq];rfl
 unfold Tn;rw[hx];refine(Bl8 s i p _ _ _ _ _ _ _ j n _ _ w q g l (Bc b) A (Bc rfl) (Bc rfl) (Bc B) Ck Ck Ck Ck Ck Ck a3 a4 (Bc rfl) Ck Ck (Bc rfl) (Bc rfl) (Bc rfl) (Bc rfl) (Bc rfl) (Bc rfl)).mono ?_;rintro e m ⟨C,D,F,G,I,J,K,L,N,O,rfl,b0,hb⟩;exact⟨_,_,_,_,_,_,_,_,_,_,_,_,_,_,_,_,_,_,rfl,fun _=>⟨rfl,b0⟩,hb⟩
def Tryz.infoRClass:(prog.info? 225).map (fun i=>(i.zero,i.size,i.bytes))=some (some (.agg #[.i 0,.s none 0 0]),2,32):=Lt
def Tryz.infoRMethod:(prog.info? 109).map (fun i=>(i.zero,i.size,i.bytes))=some (some (.agg #[.i 0,.i 0,.s none 0 0,.i 0,.i 0,.i 0,.i 0,.string ⟨#[]⟩,.s none 0 0,.s none 0 0,.i 0,.i 0]),12,152):=Lt
def Rf.given:List Rd.Cls:=[⟨-1,[]⟩,⟨0,[]⟩,⟨1,[]⟩,⟨1,[]⟩,⟨1,[]⟩,⟨1,[]⟩,⟨1,[]⟩]
def Te:List (Rd.Cls × Value):=Rf.given.map fun c=>(c,.slice none 0 0)
def Bbj(w:TW):Calls prog 134 #[] w fun e g=>∃a c,e=.r (.s a 7 c)/\Hm g w.heap.size (.s a 7 c) Te/\Bl w g:=by
 obtain⟨q,t,z,A,B⟩:=Bsa Tryz.infoRClass;go_in;go_wp2
 go_loopw [1] (fun v wr=>∃k:Nat,2<=k/\k<=7/\wr.ownsRow w.heap.size 225 2 v k (Jt (Te.take k))/\lenOf v=k/\Bl w wr)
  (fun v _=>7-lenOf v)
 case atStart=>
  refine⟨2,Ck,Ck,?_,rfl,QN _⟩;exact⟨rfl,.inr ⟨w.heap.size,2,#[.i (-1),.s none 0 0,.i 0,.s none 0 0],rfl,Bru _,Be w _,Ck,Pf,rfl,rfl⟩⟩
 case round=>
  obtain⟨k,C,Z,b,a0,f⟩:=hrel;obtain⟨va,vc,rfl⟩:=Bh b;have D:=f.size;by_cases F:k<7
  ·generalize G:Jt (Te.take k)=I at b;have J:Hid (Jt (Te.take (k+1))=I++[.i 1,.s none 0 0]):=by
    unfold Hid;rw[<- G]
    match k,C,F with
    | 2,_,_=>rfl
    | 3,_,_=>rfl
    | 4,_,_=>rfl
    | 5,_,_=>rfl
    | 6,_,_=>rfl
   go_wp2_with (at_builtin;refine Br3 _ rfl _ _ 44 rfl w.heap.size 225 q _ 2 32 underlying44 t z A B rfl Fm _ _ _ rfl (b.alloc _) ⟨wr.heap.size,0,none⟩ 1 1 [.i 1,.s none 0 0] rfl rfl ?c1 ?c2 ?c3 ?c4 ?c5 ?_)
   case c1=>exact Dh _ _ _ _ rfl
   case c2=>intro u h;simp at h;rcases h with rfl|rfl<;>rfl
   case c3=>unfold maxLen;omega
   case c4=>omega
   case c5=>simp;omega
   intro v' K l L _;obtain⟨N,O,rfl⟩:=Bh l;have Q:K.ownsRow w.heap.size 225 2 (.s N (k+1) O) (k+1) (Jt (Te.take (k+1))):=by rw[Ba J];exact l
   have V:=(f.alloc D (O10 1 none 0 0)).grown L Fr (fun j Y=>(b.lt j Y).1);go_wp2;go_roundw
   case rel=>exact⟨k+1,Ck,Ck,Q,rfl,V⟩
   case measure=>simp[lenOf];omega
  obtain rfl:k=7:=Ck;go_wp2;go_ret;refine⟨_,_,rfl,⟨b,?_⟩,f⟩;intro p m;have:p.2=.s none 0 0/\p.1.fields=[]:=by
   simp[Te,Rf.given]at m;rcases m with rfl|rfl|rfl<;>exact⟨rfl,rfl⟩
  rw[this.1,this.2];exact Brw _ _ _ _
def Bqh(s:TB)(i L H:Int)(b:0<=L)(c:L<=8)(e:H<=8):(Rf.mps s i L H).2<=i+2200\/(Rf.mps s i L H).2<0:=by
 have f:∀k:Nat,(Rf.rep (Rf.mp s L H) k (i+1)).2<=i+1+34*(k:Int)\/(Rf.rep (Rf.mp s L H) k (i+1)).2<0:=by
  intro k
  induction k with
  | zero=>left;simp[Rf.rep]
  | succ k ih =>
   unfold Rf.rep
   split
   ·right;simp
   split
   ·right;simp
   rename_i g h;have:=(Bot (s:=s) (L:=L) (H:=H) (i:=(Rf.rep (Rf.mp s L H) k (i+1)).2) Ck e c b).1
   left
   simp only;omega
 unfold Rf.mps
 split
 ·right;simp
 have j:=Rf.cnt_bd s i 0 64 Ck;have:=f (Rf.cnt s i 0 64).toNat;omega
def Bqe(s:TB)(i:Int):(Rf.mth s i).2<=(s.length:Int)+2200:=by
 unfold Rf.mth;simp only
 split
 ·simp only;omega
 split
 ·simp only;omega
 split
 ·simp only;omega
 split
 ·simp only;omega
 split
 ·simp only;omega
 split
 ·simp only;omega
 simp only;generalize e:i+3+2*Rf.cnt s (i+2) 0 4=j at *;have b:=Rf.cnt_bd s (j+2) 0 8 Ck;have c:=Rf.cnt_bd s (j+3) 0 8 Ck;have f:=Rf.hnds_le s (j+5+Rf.cnt s (j+4) 1 120);have:=Bqh s (Rf.hnds s (j+5+Rf.cnt s (j+4) 1 120)).2 (Rf.cnt s (j+2) 0 8) (Rf.cnt s (j+3) 0 8) Ck b.2 c.2;omega
def Bqu(s:TB)(i:Int):(Rf.cls s i).2<=i+10\/(Rf.cls s i).2<0:=by
 unfold Rf.cls
 split
 ·right;simp
 have:=Rf.cnt_bd s (i+1) 0 4 Ck
 left
 simp only;omega
def L0 (s:TB)(w:TW)(e:Ending)(w':TW):Prop :=
 ∃a1 n1 c1 a2 n2 c2,e=.returned (.tuple #[.agg #[.slice a1 n1 c1,.slice a2 n2 c2],.bool ((Rf.fil s).2.2==(s.length:Int))]) /\
  ((Rf.fil s).2.2=(s.length:Int)->∃l1 l2,l1.map Prod.fst=Rf.given++(Rf.fil s).1/\Hm w' w.heap.size (.slice a1 n1 c1) l1/\l2.map Prod.fst=(Rf.fil s).2.1/\Ks w' w.heap.size (.slice a2 n2 c2) l2)/\Below w.heap.size w w'
def Yl(s:ByteArray)(w:TW)(x y n:Int)(b:s.size<=maxLen)(p:Hid (Rf.at' s.data.toList 0=x))(q:Hid (Rf.at' s.data.toList 1=y))(t:Hid (Rf.cnt s.data.toList 2 0 6=n))(h:(x != 83)=true\/((x != 83)=false/\(y != 77)=true)\/((x != 83)=false/\(y != 77)=false/\n<0)):Calls prog 87 #[.string s] w fun e v=>∃z A B C D F,e=.r (.tuple #[.agg #[.s z A B,.s C D F],.bool false])/\Bl w v:=by
 rcases h with f|⟨f,G⟩|⟨f,G,L⟩
 all_goals
  go_in;go_wp2_with fail;refine(Bbj _).mono ?_;rintro e N ⟨I,J,rfl,O,g⟩;have c:=stay g (Be w _);have i:=((Brm w.heap.size w).alloc (Bru _) _).trans (g.mono Hd);have K:=Sp c;obtain⟨j,l⟩:=cl2 c;obtain⟨Q,V⟩:=fr2 c;simp at j l;have Y:=i.size;go_wp2_with fail;refine(Ge s 0 _ b).mono ?_;rw[Ba p];rintro e m ⟨rfl,rfl⟩;go_wp2_with fail;refine(Ge s 1 _ b).mono ?_;rw[Ba q];rintro e m ⟨rfl,rfl⟩;go_wp2_with fail;refine(Dx s 2 0 6 _ b).mono ?_;rw[Ba t];rintro e m ⟨rfl,rfl⟩;go_wp2_with fail;refine tb (.tuple #[.agg #[.s I 7 J,.s none 0 0],.bool false]) (by simp[results,Bu6,go_sem,j,l,K]) ?_;exact⟨_,_,_,_,_,_,rfl,by repeat (first|refine Bs4 ?_ Fr _|refine Bry ?_ Hd _|exact i)⟩
def Bjf(s:ByteArray)(w:TW)(n:Int)(f4:s.size<=15000)(HX:Hid (Rf.at' s.data.toList 0=83))(HY:Hid (Rf.at' s.data.toList 1=77))(HN:Hid (Rf.cnt s.data.toList 2 0 6=n))(i7:0<=n)(i8:n<=6):Calls prog 87 #[.string s] w fun e w'=>L0 s.data.toList w e w':=by
 have hs:s.size<=maxLen:=Pf;have f5:s.data.toList.length=s.size:=Hd;obtain⟨i0,hi,h2,h3,h4⟩:=Bsa Tryz.infoRClass;obtain⟨j0,hj,h5,h6,h7⟩:=Bsa Tryz.infoRMethod
 -- the document's answer, by its stages
 have f6:Rf.fil s.data.toList=(if (Rf.rep (Rf.cls s.data.toList) n.toNat 3).2<0 then ([],[],-1)
   else if Rf.cnt s.data.toList (Rf.rep (Rf.cls s.data.toList) n.toNat 3).2 1 6<0 then ([],[],-1)
   else if (Rf.rep (Rf.mth s.data.toList) (Rf.cnt s.data.toList (Rf.rep (Rf.cls s.data.toList) n.toNat 3).2 1 6).toNat ((Rf.rep (Rf.cls s.data.toList) n.toNat 3).2+1)).2<0 then ([],[],-1)
   else ((Rf.rep (Rf.cls s.data.toList) n.toNat 3).1,(Rf.rep (Rf.mth s.data.toList) (Rf.cnt s.data.toList (Rf.rep (Rf.cls s.data.toList) n.toNat 3).2 1 6).toNat ((Rf.rep (Rf.cls s.data.toList) n.toNat 3).2+1)).1,(Rf.rep (Rf.mth s.data.toList) (Rf.cnt s.data.toList (Rf.rep (Rf.cls s.data.toList) n.toNat 3).2 1 6).toNat ((Rf.rep (Rf.cls s.data.toList) n.toNat 3).2+1)).2)):=by
  unfold Rf.fil;simp only;rw[Pk (by rw[Ba HX];decide),Pk (by rw[Ba HY];decide),Ba HN,Pk Ck]
 unfold L0;rw[f5];generalize hF:Rf.fil s.data.toList=F at *;have HF:=Bc f6;clear f6 hF;go_in;go_wp2_with fail;refine(Bbj _).mono ?_;rintro e w1 ⟨ga,gc,rfl,hg,c6⟩;have C1:=stay c6 (Be w _);have c7:=((Brm w.heap.size w).alloc (Bru _) _).trans (c6.mono Hd);have i9:=Sp C1;have s1:=c7.size;have f7:=hg.mono (b':=w.heap.size) Hd;go_wp2_with fail;refine(Ge s 0 _ hs).mono ?_;rw[Ba HX];rintro e w0 ⟨rfl,rfl⟩;go_wp2_with fail;refine(Ge s 1 _ hs).mono ?_;rw[Ba HY];rintro e w0 ⟨rfl,rfl⟩;go_wp2_with fail;refine(Dx s 2 0 6 _ hs).mono ?_;rw[Ba HN];rintro e w0 ⟨rfl,rfl⟩;have D0:=Be w1 (O11 ga 7 gc none 0 0);have f8:=c7.alloc s1 (O11 ga 7 gc none 0 0);have C2:=Bg C1 (O11 ga 7 gc none 0 0);have f9:=f7.kp (Kp.alloc (e:=none) w1 (O11 ga 7 gc none 0 0)) Fm Fm;clear hg f7 c6 c7 C1;go_wp2
 go_loopw [8,9] (fun p j wr=>∃(k:Nat) (q:Int) (v:TX) (l:List (Rd.Cls×Value)),(k:Int)<=n/\j=.i k/\p=.i q/\0<=q/\q<=3+10*(k:Int)/\l.length=7+k/\Hid (Rf.rep (Rf.cls s.data.toList) k 3=((l.map Prod.fst).drop 7,q)/\(l.map Prod.fst).take 7=Rf.given)/\Hm wr w.heap.size v l /\
   wr.heap[w1.heap.size]?=some (.cells #[v,.s none 0 0] 47 (0,0))/\wr.heap[w.heap.size]?=some (O11 none 0 0 none 0 0)/\Bl w wr)
  (fun _ j _=>n.toNat-(intOf j).toNat)
 case atStart=>exact⟨0,3,_,Te,Ck,rfl,rfl,Ck,Ck,rfl,⟨rfl,rfl⟩,f9,D0,C2,f8⟩
 case round=>
  clear f9 D0 C2 f8;obtain⟨k,q,v,l,hk,rfl,rfl,b6,j1,b4,HQ,a0,D,A,G⟩:=hrel;obtain⟨L,vc,rfl⟩:=Bh a0.1;have a5:=G.size;have g2:=Sp D;have g3:=Sp A;have b2:=Bc b4;have j2:l.length<=13:=Ck;clear b4;by_cases h8:(k:Int)<n
  ·generalize g:Rf.cls s.data.toList q=c at *;have d6:=Bqu s.data.toList q;rw[g]at d6;by_cases b7:c.2<0
   ·have b5:F=([],[],-1):=by
     rw[Ba HF,Yn (k:=k) (by rw[(Ba HQ).1];exact b6) (by rw[(Ba HQ).1];rw[g];exact b7) _ Ck,Th Fm]
    have a6:=Bc b5;have Hc:=Bc g;clear b5 g;go_wp2_with fail;refine(Zk s q _ hs b6 Ck).mono ?_;rw[Ba Hc];rintro e I ⟨x,ua,un,uc,rfl,_,f⟩;have J:=G.trans (f.mono a5);have s3:=J.size;have B:=stay f D;have K:=stay f A;have l3:=Sp B;have l4:=Sp K;obtain⟨N,d1⟩:=cl2 B;obtain⟨O,Q⟩:=cl2 K;obtain⟨g0,g1⟩:=fr2 K;simp at N d1 O Q;go_wp2_with fail;refine tb (.tuple #[.agg #[.s L l.length vc,.s none 0 0],.bool false]) (by simp[results,Bu6,go_sem,O,Q,l4]) ?_;rw[Ba a6];refine⟨L,l.length,vc,none,0,0,?_,fun h=>?_,by repeat (first|refine Bs4 ?_ Fr _|refine Bry ?_ Hd _|exact J)⟩
    ·rw[show ((-1:Int)==(s.size:Int))=false by first|(simp;done)|(simp;omega)]
    exfalso;simp only at h;omega
   have HE:Hid (Rf.rep (Rf.cls s.data.toList) (k+1) 3=((l.map Prod.fst).drop 7++[c.1],c.2)):=Rf.rep_step (Ba HQ).1 b6 g Ck;have Hc:=Bc g;clear g;go_wp2_with fail;refine(Zk s q _ hs b6 Ck).mono ?_;rw[Ba Hc];rintro e I ⟨x,ua,un,uc,rfl,hx,f⟩;obtain⟨rfl,g4⟩:=hx Ck;have J:=G.trans (f.mono a5);have s3:=J.size;have B:=stay f D;have K:=stay f A;have l3:=Sp B;have b3:=a0.kp (Kp.of_below (e:=none) f) Fm Fm;have T3:=g4.mono a5;have N:=Bb B 0;have f0:=Bk B 0;simp at N;have h9:=Bc b3.2;have a1:=b3.1;clear a0 b3 g4 f D A G hx;go_wp2_with (at_builtin;refine Br3 _ rfl _ _ 44 rfl w.heap.size 225 i0 _ 2 32 underlying44 hi h2 h3 h4 rfl Fm _ _ _ rfl ((a1.alloc _).alloc _) ⟨I.heap.size+1,0,none⟩ 1 1 [.i c.1.above,.s ua un uc] rfl rfl ?c1 ?c2 ?c3 ?c4 ?c5 ?_)
   case c1=>exact Dh _ _ _ _ Hd
   case c2=>intro u hu;simp at hu;rcases hu with rfl|rfl<;>rfl
   case c3=>unfold maxLen;omega
   case c4=>omega
   case c5=>simp;omega
   intro v' w5 b0 b1 _;obtain⟨V,Y,rfl⟩:=Bh b0;have d7:=((J.alloc s3 _).alloc Fr _).grown b1 Fr (fun j hj=>(a1.lt j hj).1);have hK:=((Kp.alloc (e:=some 225) (b:=0) _ _).trans (Kp.alloc _ _)).trans (Kp.of_grown b1 ((a1.alloc _).alloc _));have a3:=hK _ _ _ (Bsb _) B Fm;have d8:=hK _ _ _ (Bsb _) K Fm;have x1:=Bb a3 0;have f1:=Bk a3 0;simp at x1;have a7:Kp (some 225) w.heap.size I w5:=fun k cs t _ g ht=>hK k cs t (Bsb _) g ht;have Z:=Kp.set (b:=w.heap.size) (i:=0) a3 (.s V (l.length+1) Y);have d9:Hm (w5.setCell (.a w1.heap.size 0) (.s V (l.length+1) Y)) w.heap.size (.s V (l.length+1) Y) (l++[(c.1,.s ua un uc)]):=by
    refine⟨?_,?_⟩
    ·rw[Yf,Ws];exact Dc b0 Z Fm
    intro p C;rw[Bs1]at C;rcases C with C|C
    ·exact((Ba h9 p C).kp a7 Fm).kp Z Fm
    simp only[Bth]at C;subst C;exact(T3.kp a7 Fm).kp Z Fm
   have HD:=Bt (i:=0) a3 (.s V (l.length+1) Y);have HC:=Du d8 (p:=.a w1.heap.size 0) Fr (.s V (l.length+1) Y);have g5:Hid (7<=(l.map Prod.fst).length):=by unfold Hid;rw[Br1,Ba b2];omega
   clear b1 a1 b0 hK a7 B K J Z T3;go_wp2;go_roundw
   case rel=>
    refine⟨k+1,_,_,_,Ck,Mg,rfl,Ck,Ck,by rw[Ws,Ba b2];simp;omega,⟨?_,?_⟩,d9,HD,HC,d7.setCell Fr _⟩
    ·rw[Ba HE,Bse,Bt4 (Ba g5)];rfl
    rw[Bse,Buo (Ba g5)];exact(Ba HQ).2
   case measure=>simp[intOf];omega
  obtain rfl:k=n.toNat:=Ck;have g6:Rf.rep (Rf.cls s.data.toList) n.toNat 3=((l.map Prod.fst).drop 7,q):=(Ba HQ).1;generalize hm:Rf.cnt s.data.toList q 1 6=m at *;have g7:=Rf.cnt_bd s.data.toList q 1 6 Ck;rw[hm]at g7;obtain⟨j3,j4⟩:=g7;have a4:=Ba HF;rw[g6,Pk Mc]at a4;simp only at a4;rw[hm]at a4;have HM:=Bc hm;have i1:=Bc (Ba HQ).2;clear hm g6 HQ HF b2;by_cases b7:m<0
  ·rw[Th b7]at a4;have a6:=Bc a4;clear a4;obtain⟨N,d1⟩:=cl2 D;obtain⟨O,Q⟩:=cl2 A;obtain⟨g0,g1⟩:=fr2 A;simp at N d1 O Q;go_wp2_with fail;refine(Dx s q 1 6 _ hs).mono ?_;rw[Ba HM];rintro e w0 ⟨rfl,rfl⟩;go_wp2_with fail;refine tb (.tuple #[.agg #[.s L l.length vc,.s none 0 0],.bool false]) (by simp[results,Bu6,go_sem,O,Q]) ?_;rw[Ba a6];refine⟨L,l.length,vc,none,0,0,?_,fun h=>?_,by repeat (first|refine Bry ?_ Hd _|exact G)⟩
   ·rw[show ((-1:Int)==(s.size:Int))=false by first|(simp;done)|(simp;omega)]
   exfalso;simp only at h;omega
  rw[Pk b7]at a4;have a6:=Bc a4;clear a4;go_wp2_with fail;refine(Dx s q 1 6 _ hs).mono ?_;rw[Ba HM];rintro e w0 ⟨rfl,rfl⟩;go_wp2
  go_loopw [8,12] (fun p j I=>∃(k:Nat) (t:Int) (v:TX) (z:List (Rf.Mth×K0)),(k:Int)<=m/\j=.i k/\p=.i t/\0<=t/\t<=20000/\z.length=k/\Hid (Rf.rep (Rf.mth s.data.toList) k (q+1)=(z.map Prod.fst,t))/\Ks I w.heap.size v z/\Hm I w.heap.size (.s L l.length vc) l /\
    I.heap[w1.heap.size]?=some (.cells #[.s L l.length vc,v] 47 (0,0))/\I.heap[w.heap.size]?=some (O11 none 0 0 none 0 0)/\Bl w I)
   (fun _ j _=>m.toNat-(intOf j).toNat)
  case atStart=>exact⟨0,_,_,[],Ck,rfl,rfl,Ck,Ck,rfl,rfl,⟨Brw _ _ _ _,Hd⟩,a0,D,A,G⟩
  case round=>
   clear a0 D A G g2 g3 a5;obtain⟨k,t,v,z,hk,rfl,rfl,b8,j5,b4,HT,b9,a0,D,A,G⟩:=hrel;obtain⟨vb,vd,rfl⟩:=Bh b9.1;have a5:=G.size;have g2:=Sp D;have g3:=Sp A;have b2:=Bc b4;have j6:z.length<=6:=Ck;clear b4;by_cases h8:(k:Int)<m
   ·generalize g:Rf.mth s.data.toList t=c at *;have d6:=Bqe s.data.toList t;rw[g,f5]at d6;by_cases i2:c.2<0
    ·have b5:F=([],[],-1):=by
      rw[Ba a6,Yn (k:=k) (by rw[Ba HT];exact b8) (by rw[Ba HT];rw[g];exact i2) _ Ck,Th Fm]
     have f2:=Bc b5;have Hc:=Bc g;clear b5 g a6;go_wp2_with fail;refine(Bcu s t _ f4 b8 Ck).mono ?_;unfold Tn;rw[Ba Hc];rintro e I ⟨x0,x1,a2,n2,c2,x3,x4,x5,x6,sb,a8,n8,c8,a9,n9,c9,g8,g9,rfl,_,f⟩;have J:=G.trans (f.mono a5);have s3:=J.size;have B:=stay f D;have K:=stay f A;have l3:=Sp B;have l4:=Sp K;obtain⟨N,d1⟩:=cl2 B;obtain⟨O,Q⟩:=cl2 K;obtain⟨g0,g1⟩:=fr2 K;simp at N d1 O Q;go_wp2_with fail;refine tb (.tuple #[.agg #[.s L l.length vc,.s vb z.length vd],.bool false]) (by simp[results,Bu6,go_sem,O,Q,l4]) ?_;rw[Ba f2];refine⟨L,l.length,vc,vb,z.length,vd,?_,fun h=>?_,by repeat (first|refine Bs4 ?_ Fr _|refine Bry ?_ Hd _|exact J)⟩
     ·rw[show ((-1:Int)==(s.size:Int))=false by first|(simp;done)|(simp;omega)]
     exfalso;simp only at h;omega
    have HE:Hid (Rf.rep (Rf.mth s.data.toList) (k+1) (q+1)=(z.map Prod.fst++[c.1],c.2)):=Rf.rep_step (Ba HT) b8 g Ck;have Hc:=Bc g;clear g;go_wp2_with fail;refine(Bcu s t _ f4 b8 Ck).mono ?_;unfold Tn;rw[Ba Hc];rintro e I ⟨x0,x1,a2,n2,c2,x3,x4,x5,x6,sb,a8,n8,c8,a9,n9,c9,g8,g9,rfl,hx,f⟩;obtain⟨Ev,h0⟩:=hx Ck;have i3:=Bc Ev;have J:=G.trans (f.mono a5);have s3:=J.size;have B:=stay f D;have K:=stay f A;have l3:=Sp B;have f3:=b9.kp (Kp.of_below (e:=none) f) Fm Fm Fm Fm;have b3:=a0.kp (Kp.of_below (e:=none) f) Fm Fm;have T3:=h0.mono a5;have N:=Bb B 1;have f0:=Bk B 1;simp at N;have i4:=Bc f3.2;have a1:=f3.1;clear b9 f3 h0 f D A G hx Ev a0;go_wp2_with (at_builtin;refine Br3 _ rfl _ _ 45 rfl w.heap.size 109 j0 _ 12 152 underlying45 hj h5 h6 h7 rfl Fm _ _ _ rfl ((a1.alloc _).alloc _) ⟨I.heap.size+1,0,none⟩ 1 1 [.i x0,.i x1,.s a2 n2 c2,.i x3,.i x4,.i x5,.i x6,.string sb,.s a8 n8 c8,.s a9 n9 c9,.i g8,.i g9] rfl rfl ?d1 ?d2 ?d3 ?d4 ?d5 ?_)
    case d1=>exact Dh _ _ _ _ Hd
    case d2=>intro u hu;simp at hu;rcases hu with rfl|rfl|rfl|rfl|rfl|rfl|rfl|rfl|rfl|rfl|rfl|rfl<;>rfl
    case d3=>unfold maxLen;omega
    case d4=>omega
    case d5=>simp;omega
    intro v' w5 b0 b1 _;obtain⟨V,Y,rfl⟩:=Bh b0;have d7:=((J.alloc s3 _).alloc Fr _).grown b1 Fr (fun j hj=>(a1.lt j hj).1);have hK:=((Kp.alloc (e:=some 109) (b:=0) _ _).trans (Kp.alloc _ _)).trans (Kp.of_grown b1 ((a1.alloc _).alloc _));have a3:=hK _ _ _ (Bsb _) B Fm;have d8:=hK _ _ _ (Bsb _) K Fm;have i5:=Bb a3 1;have f1:=Bk a3 1;simp at i5;have a7:Kp (some 109) w.heap.size I w5:=fun k cs t _ g ht=>hK k cs t (Bsb _) g ht;have Z:=Kp.set (b:=w.heap.size) (i:=1) a3 (.s V (z.length+1) Y);have i6:Ks (w5.setCell (.a w1.heap.size 1) (.s V (z.length+1) Y)) w.heap.size (.s V (z.length+1) Y) (z++[(c.1,⟨.s a2 n2 c2,sb,.s a8 n8 c8,.s a9 n9 c9⟩)]):=by
     refine⟨?_,?_⟩
     ·rw[Bbz,Ws,<- Ba i3];exact Dc b0 Z Fm
     intro p C;rw[Bs1]at C;rcases C with C|C
     ·exact((Ba i4 p C).kp a7 Fm Fm Fm).kp Z Fm Fm Fm
     simp only[Bth]at C;subst C;exact(T3.kp a7 Fm Fm Fm).kp Z Fm Fm Fm
    have d9:=(b3.kp a7 Fm Fm).kp Z Fm Fm;have HD:=Bt (i:=1) a3 (.s V (z.length+1) Y);have HC:=Du d8 (p:=.a w1.heap.size 1) Fr (.s V (z.length+1) Y);clear b1 a1 b0 hK a7 B K J Z T3 b3;go_wp2;go_roundw
    case rel=>
     refine⟨k+1,_,_,_,Ck,Mg,rfl,Ck,Ck,by rw[Ws,Ba b2];rfl,?_,i6,d9,HD,HC,d7.setCell Fr _⟩;unfold Hid;rw[Ba HE,Bse];rfl
    case measure=>simp[intOf];omega
   obtain rfl:k=m.toNat:=Ck;have h1:Rf.rep (Rf.mth s.data.toList) m.toNat (q+1)=(z.map Prod.fst,t):=Ba HT;have c0:=Ba a6;rw[h1,Pk Mc]at c0;simp only at c0;have f2:=Bc c0;clear c0 h1 a6 b2;obtain⟨N,d1⟩:=cl2 D;obtain⟨O,Q⟩:=cl2 A;obtain⟨g0,g1⟩:=fr2 A;simp at N d1 O Q;go_wp2_with fail;refine tb (.tuple #[.agg #[.s L l.length vc,.s vb z.length vd],.bool (t==(s.size:Int))]) (by simp[results,Bu6,go_sem,O,Q]) ?_;rw[Ba f2];have k1:=(Kp.set (b:=w.heap.size) (i:=0) A (.s L l.length vc)).trans (Kp.set (i:=1) (Bt (i:=0) A (.s L l.length vc)) (.s vb z.length vd));refine⟨L,l.length,vc,vb,z.length,vd,rfl,fun _=>⟨l,?_,a0.kp k1 Fm Fm,z,rfl,b9.kp k1 Fm Fm Fm Fm⟩,by repeat (first|refine Bry ?_ Hd _|exact G)⟩
   rw[<- Ba i1,Bua]
def Bjg(s:ByteArray)(w:TW)(z:s.size<=15000):Calls prog 87 #[.string s] w fun e c=>L0 s.data.toList w e c:=by
 have g:s.size<=maxLen:=Pf;have i:Rf.fil s.data.toList=([],[],-1)->(Calls prog 87 #[.string s] w fun e c=>∃j l m p q t,e=.r (.tuple #[.agg #[.s j l m,.s p q t],.bool false])/\Bl w c) ->
   Calls prog 87 #[.string s] w fun e c=>L0 s.data.toList w e c:=by
  intro A B;refine B.mono ?_;rintro e c ⟨j,l,m,p,q,t,rfl,C⟩;unfold L0;rw[A];refine⟨j,l,m,p,q,t,?_,fun h=>?_,C⟩
  ·rw[show ((-1:Int)==(s.data.toList.length:Int))=false by rw[Bvj];omega]
  exfalso;simp only at h;omega
 have D:=Rf.cnt_bd s.data.toList 2 0 6 Ck;by_cases b:Rf.at' s.data.toList 0=83
 ·by_cases f:Rf.at' s.data.toList 1=77
  ·by_cases v:Rf.cnt s.data.toList 2 0 6<0;·refine i ?_ (Yl s w 83 77 _ g (Bc b) (Bc f) (Bc rfl) (.inr (.inr ⟨Fm,Fm,v⟩)));unfold Rf.fil;rw[Pk (fun h=>h b),Pk (fun h=>h f),Th v]
   exact Bjf s w _ z (Bc b) (Bc f) (Bc rfl) Ck D.2
  refine i ?_ (Yl s w 83 _ _ g (Bc b) (Bc rfl) (Bc rfl) (.inr (.inl ⟨Fm,by simpa using f⟩)));unfold Rf.fil;rw[Pk (fun h=>h b),Th f]
 refine i ?_ (Yl s w _ _ _ g (Bc rfl) (Bc rfl) (Bc rfl) (.inl (by simpa using b)));unfold Rf.fil;rw[Th b]
def Tr.rb(l:TI)(b:Int):Nat->Int->Bool
 | 0,_=>false
 | n+1,a=>if a=b then true else if Tr.hasB l a=false then false else Tr.rb l b n (l.getD a.toNat 0)
def Tr.rbel(l:TI)(a b:Int):Bool:=Tr.rb l b (l.length+1) a
def Ct (l:List (Rd.Cls × Value)):List Int:=(l.map Prod.fst).map Rd.Cls.above
def Jn(l:List (Rd.Cls×Value)):(Ct l).length=l.length:=by simp[Ct]
def Bi5(l:List (Rd.Cls×Value))(k:Nat)(h:k<l.length):(Ct l).getD k 0=l[k].1.above:=by
 simp[Ct,Vm,h]
def L9(T:TI)(a b:TA)(c f g:Nat)(x:Int)(w:TW):Calls prog 89 #[.agg #[.s a T.length c,.s b f g],.i x] w fun e h=>e=.r (.bool (Tr.hasB T x))/\Bl w h:=by
 unfold Tr.hasB;by_cases j:0<=x;·go_in;go_wp2;go_ret;exact⟨by simp[j],QN _⟩
 go_in;go_wp2;go_ret;exact⟨Fr,QN _⟩
def Vo(T:TI)(a j:TA)(c l m:Nat)(k n:Int)(w:TW):Calls prog 90 #[.agg #[.s a T.length c,.s j l m],.agg #[.i k,.i n]] w fun e z=>e=.r (.bool (Tr.plainB T k n))/\Bl w z:=by
 unfold Tr.plainB;generalize A:Tr.hasB T n=B;have t:=Bc A;by_cases p:k=1
 ·rw[Th p];subst p;cases C:(n==0)
  all_goals
   go_in;go_wp2_with fail;refine(L9 T a j c l m n _).mono ?_;rw[Ba t];rintro e v ⟨rfl,b⟩;have f:=stay b (Bx w _ _);obtain⟨g,h⟩:=cl2 f;simp at g h;go_wp2;go_ret;exact⟨rfl,(Bu _ _ _).trans (b.mono Fr)⟩
 rw[Pk p];have D:(k==1)=false:=by simp[p]
 by_cases q:k=3
 ·rw[Th q];subst q;cases B
  all_goals
   go_in;go_wp2_with fail;refine(L9 T a j c l m n _).mono ?_;rw[Ba t];rintro e v ⟨rfl,b⟩;have f:=stay b (Bx w _ _);obtain⟨g,h⟩:=cl2 f;simp at g h;go_wp2;go_ret;exact⟨rfl,(Bu _ _ _).trans (b.mono Fr)⟩
 rw[Pk q];have F:(k==3)=false:=by simp[q]
 go_in;go_wp2_with fail;refine(L9 T a j c l m n _).mono ?_;rw[Ba t];rintro e v ⟨rfl,b⟩;have f:=stay b (Bx w _ _);obtain⟨g,h⟩:=cl2 f;simp at g h;go_wp2;go_ret;exact⟨rfl,(Bu _ _ _).trans (b.mono Fr)⟩
def Bp7{z:TI}{a B:Int}{n:Nat}(h:a=B):Tr.rb z B (n+1) a=true:=by simp[Tr.rb,h]
def Bp4{z:TI}{a B:Int}{n:Nat}(h:a≠B)(c:Tr.hasB z a=false):Tr.rb z B (n+1) a=false:=by simp[Tr.rb,h,c]
def Bq6{z:TI}{a B:Int}{n:Nat}(h:a≠B)(c:Tr.hasB z a=true):Tr.rb z B (n+1) a=Tr.rb z B n (z.getD a.toNat 0):=by simp[Tr.rb,h,c]
def J9(b j:TA)(c t v N:Nat)(l:List (Rd.Cls×Value))(x y:Int)(w:TW)(hl:l.length<=1000)(O:Hm w N (.s b l.length c) l):Calls prog 91 #[.agg #[.s b l.length c,.s j t v],.i x,.i y] w fun e Q=>e=.r (.bool (Tr.rbel (Ct l) x y))/\Bl w Q:=by
 unfold Tr.rbel;rw[Jn];generalize V:Tr.rb (Ct l) y (l.length+1) x=r;have z:Hid (Tr.rb (Ct l) y (l.length+1-0) x=r):=V;have Y:Bl w (w.alloc (O11 b l.length c j t v)):=QN _;have Z:=Be w (O11 b l.length c j t v);go_in;go_wp2
 go_loopw [1,7] (fun p i wr=>∃(k:Nat) (q:Int),k<=l.length+1/\i=.i k/\p=.i q/\Hid (Tr.rb (Ct l) y (l.length+1-k) q=r)/\Bl w wr /\
   wr.heap[w.heap.size]?=some (O11 b l.length c j t v))
  (fun _ i _=>l.length+1-(intOf i).toNat)
 case atStart=>exact⟨0,_,Ck,rfl,rfl,z,Y,Z⟩
 case round=>
  obtain⟨k,q,hk,rfl,rfl,z,A,G⟩:=hrel;obtain⟨c0,d1⟩:=cl2 G;simp at c0 d1;have I:=A.size;by_cases a5:k<=l.length
  ·by_cases B:q=y
   ·have a0:(q==y)=true:=by simp[B]
    have C:r=true:=by rw[<- Ba z,show l.length+1-k=(l.length-k)+1 by omega];exact Bp7 B
    have f:=Bc C;go_wp2;go_ret;exact⟨by rw[Ba f];rfl,A⟩
   have a0:(q==y)=false:=by simp[B]
   cases h:Tr.hasB (Ct l) q with
   | false =>
    have C:r=false:=by rw[<- Ba z,show l.length+1-k=(l.length-k)+1 by omega];exact Bp4 B h
    have f:=Bc C;have F:=Bc h;go_wp2_with fail;refine(show Calls prog _ _ _ _ from by have:=L9 (Ct l) b j c t v q wr;rw[Jn]at this;exact this).mono ?_;rw[Ba F];rintro e w2 ⟨rfl,D⟩;go_wp2;go_ret;exact⟨by rw[Ba f];rfl,A.trans (D.mono I)⟩
   | true =>
    have hq:0<=q/\q<(l.length:Int):=by
     unfold Tr.hasB at h;rw[Jn]at h;simpa using h
    obtain⟨m,hm⟩:=Brp hq.1;subst hm;have J:m<l.length:=Ck;have f:Hid (Tr.rb (Ct l) y (l.length+1-(k+1)) l[m].1.above=r):=by
     unfold Hid;rw[<- Ba z,show l.length+1-k=(l.length+1-(k+1))+1 by omega,Bq6 B h,Brx,Bi5 l m J]
    have F:=Bc h;go_wp2_with fail;refine(show Calls prog _ _ _ _ from by have:=L9 (Ct l) b j c t v (m:Int) wr;rw[Jn]at this;exact this).mono ?_;rw[Ba F];rintro e w2 ⟨rfl,D⟩;have K:=A.trans (D.mono I);have L:=stay D G;obtain⟨g,hg,a6,_,a3⟩:=Cf (Dc O.1 (Kp.of_below (e:=none) K) Fm) Ck;obtain⟨e1,e2,e3⟩:=Nm l m J;have x0:=a3 (m*2) Ck;rw[e1]at x0;have a4:=Bb L 0;simp at a4;generalize l[m].1.above=ab at *;subst hg;go_wp2;go_roundw
    case rel=>exact⟨k+1,_,Ck,Mg,rfl,f,K,L⟩
    case measure=>simp[intOf];omega
  have C:r=false:=by rw[<- Ba z,show l.length+1-k=0 by omega];rfl
  have f:=Bc C;go_wp2;go_ret;exact⟨by rw[Ba f];rfl,A⟩
namespace Tr
def Bp5(l:TI){c:Int}(e:0<=c)(n:Nat):rb l c n (-1)=false:=by
 cases n with
 | zero=>rfl
 | succ k =>
  unfold rb;rw[Pk Ck,Th (by simp[hasB])]
def Bpe{z:TI}(h:Ok z){a B:Int}(g:0<a)(c:a<(z.length:Int))(i:0<=B)(j:a≠B):At z a B<->At z (ov z a) B:=by
 constructor
 ·rintro (e|e)
  ·exact absurd e.symm j
  rcases Bh7 h Ck i c e with f|f
  ·exact .inl f
  exact .inr f
 rintro (e|e)
 ·right;rw[e];exact Bei h g c
 right;exact Yg h (Bdb h g c) i c (Bei h g c) e
def Bp6{z:TI}(h:Ok z){c:Int}(i:0<=c)(n:Nat):∀{a:Int},0<=a->a<(z.length:Int)->a<(n:Int)->(rb z c n a=true<->At z a c):=by
 induction n with
 | zero=>intro a m _ q;omega
 | succ k ih =>
  intro a m j v;unfold rb;by_cases f:a=c;·rw[Th f];exact⟨fun _=>.inl f.symm,fun _=>rfl⟩
  rw[Pk f];have s:hasB z a=true:=by simp[hasB];omega
  rw[s,Pk Hd];have p:ov z a=z.getD a.toNat 0:=by unfold ov;rw[Pk Ck,Pk Ck]
  rw[<- p];by_cases t:a=0
  ·subst t;have:ov z 0 = -1:=by
    have:=Bcf h (show (0:Int)<=0 by omega);have q:-1<=ov z 0:=by
     rw[p];have:=h.2.1;simpa using (by rw[this];omega:(-1:Int)<=z.getD 0 0)
    omega
   rw[this,Bp5 z i]
   constructor
   ·intro g;cases g
   rintro (e|e)
   ·omega
   have:=below_lt h i j e;omega
  have u1:=Bcf h m;have u2:=Bdb h Ck j;rw[ih u2 Ck Ck];exact(Bpe h Ck j i f).symm
def rbel_iff{z:TI}(h:Ok z){a b:Int}(c:0<=a)(e:a<(z.length:Int))(f:0<=b):rbel z a b=true<->At z a b :=
 Bp6 h f (z.length+1) c e Ck
def rfits(l:TI)(k n k' n':Int):Bool :=
 if k=k'/\n=n' then true else if k'=0 then true else if k=2 then (k' == 3) else if k=3 then (k' == 3)&&rbel l n n' else false
def rfits_eq{z:TI}(h:Ok z){k n c f:Int}(s:Arg z k n)(t:Arg z c f):rfits z k n c f=fitsB z k n c f:=by
 unfold rfits fitsB;by_cases i:k=c/\n=f;·rw[Th i,Th i]
 rw[Pk i,Pk i];by_cases p:c=0;·rw[Th p,Th p]
 rw[Pk p,Pk p];by_cases j:c=3
 ·have v:¬c≠3:=fun g=>g j;rw[Pk v];by_cases q:k=2;·rw[Th q,Th q];simp[j]
  rw[Pk q,Pk q];by_cases m:k=3;·rw[Th m,Th m];subst j m;have e:=rbel_iff h (a:=n) (b:=f) (by unfold Arg at s;omega) (by unfold Arg at s;omega) (by unfold Arg at t;omega);have:below z n f=true<->At z n f:=⟨.inr,fun g=>g.elim (fun e=>absurd ⟨rfl,e.symm⟩ i) id⟩;rw[show ((3:Int)==3)=true from rfl,Bts];exact Bool.eq_iff_iff.2 (e.trans this.symm)
  rw[Pk m,Pk m]
 rw[Th j];have:(c==3)=false:=by simp[j]
 rw[this];simp
end Tr
def Bjk(t z:TA)(v A B C:Nat)(l:List (Rd.Cls×Value))(k n g c:Int)(w:TW)(I:l.length<=1000)(J:Hm w C (.s t l.length v) l):Calls prog 178 #[.agg #[.s t l.length v,.s z A B],.agg #[.i k,.i n],.agg #[.i g,.i c]] w fun e L=>e=.r (.bool (Tr.rfits (Ct l) k n g c))/\Bl w L:=by
 unfold Tr.rfits;by_cases f:k=g/\n=c;·rw[Th f];obtain⟨rfl,rfl⟩:=f;go_in;go_wp2;go_ret;exact⟨rfl,Em _ _ _ _⟩
 rw[Pk f];by_cases j:g=0
 ·rw[Th j];subst j;by_cases h:k=0;·subst h;have b:¬n=c:=fun b=>f ⟨rfl,b⟩;go_in;go_wp2;go_ret;exact⟨rfl,Em _ _ _ _⟩
  clear f;go_in;go_wp2;go_ret;exact⟨rfl,Em _ _ _ _⟩
 rw[Pk j];have V:(g==0)=false:=by simp[j]
 by_cases m:k=2
 ·rw[Th m];subst m;by_cases h:(2:Int)=g;·subst h;have b:¬n=c:=fun b=>f ⟨rfl,b⟩;go_in;go_wp2;go_ret;exact⟨rfl,Em _ _ _ _⟩
  clear f j;go_in;go_wp2;go_ret;exact⟨rfl,Em _ _ _ _⟩
 rw[Pk m];by_cases p:k=3
 ·rw[Th p];subst p;generalize N:Tr.rbel (Ct l) n c=r;have K:=Bc N;by_cases h:(3:Int)=g;·subst h;have b:¬n=c:=fun b=>f ⟨rfl,b⟩;go_in;go_wp2_with fail;refine(J9 t z v A B C l n c _ I (J.kp (Kp.of_below (e:=none) (Em _ _ _ _)) Fm Fm)).mono ?_;rw[Ba K];rintro e O ⟨rfl,q⟩;have D:=stay q (Nz w _ _ _).2.2;obtain⟨F,G⟩:=cl2 D;simp at F G;go_wp2;go_ret;exact⟨rfl,(Em _ _ _ _).trans (q.mono Fr)⟩
  have Q:(g==3)=false:=Fr;rw[Q];go_in;go_wp2_with fail;refine(J9 t z v A B C l n c _ I (J.kp (Kp.of_below (e:=none) (Em _ _ _ _)) Fm Fm)).mono ?_;rw[Ba K];rintro e O ⟨rfl,q⟩;have D:=stay q (Nz w _ _ _).2.2;obtain⟨F,G⟩:=cl2 D;simp at F G;go_wp2;go_ret;exact⟨rfl,(Em _ _ _ _).trans (q.mono Fr)⟩
 rw[Pk p];have Y:(k==2)=false:=by simp[m]
 have Z:(k==3)=false:=by simp[p]
 by_cases h:k=g;·subst h;have b:¬n=c:=fun b=>f ⟨rfl,b⟩;go_in;go_wp2;go_ret;exact⟨rfl,Em _ _ _ _⟩
 clear f j m p;go_in;go_wp2;go_ret;exact⟨rfl,Em _ _ _ _⟩
def Tr.badOf(x:Int × Int):Int:=if x.1=0 then -1 else x.2
theorem Bcz(G q:Option Addr)(h s t bb:Nat)(l:List (Rd.Cls×Value))(w:World)(hl:l.length<=13)(c8:7<=l.length)(b7:∀p∈l,p.1.fields.length<=1000)(hc:Hm w bb (.slice G l.length h) l):Calls prog 88 #[.agg #[.slice G l.length h,.slice q s t]] w fun e f=>e=.returned (.int .i64 (Tr.badOf (Tr.inCl (Ct l) 0 ((l.map Prod.fst).drop 7))))/\Below w.heap.size w f:=by
 generalize b:Tr.badOf (Tr.inCl (Ct l) 0 ((l.map Prod.fst).drop 7))=r;have I:Hid (Tr.badOf (Tr.inCl (Ct l) 0 ((l.map Prod.fst).drop (7+0)))=r):=b;clear b;have b2:Below w.heap.size w (w.alloc (O11 G l.length h q s t)):=QN _;have b3:=Be w (O11 G l.length h q s t);go_in;go_wp2
 go_loopw [3] (fun i wr=>∃k:Nat,7+k<=l.length/\i=.int .i64 (7+(k:Int))/\Hid (Tr.badOf (Tr.inCl (Ct l) k ((l.map Prod.fst).drop (7+k)))=r)/\Below w.heap.size w wr /\
   wr.heap[w.heap.size]?=some (O11 G l.length h q s t))
  (fun i _=>l.length-(intOf i).toNat)
 case atStart=>exact⟨0,Ck,rfl,I,b2,b3⟩
 case round=>
  clear b2 b3 I;obtain⟨k,hk,rfl,I,C,hx⟩:=hrel;obtain⟨c0,d1⟩:=cl2 hx;simp at c0 d1;have c9:=C.size;by_cases Y:7+k<l.length
  ·have a3:=hc.kp (Kp.of_below (e:=none) C) Fm Fm;obtain⟨g,hg,d0,_,a4⟩:=Cf a3.1 Ck;obtain⟨e1,e2,e3⟩:=Nm l (7+k) Y;have x0:=a4 ((7+k)*2) Ck;have Z:=a4 ((7+k)*2+1) Ck;rw[e1]at x0;rw[e2]at Z;have d2:=b7 _ (Brn Y);have a5:=a3.2 _ (Brn Y);obtain⟨ua,uc,hu⟩:=Bh a5;rw[hu]at Z a5;have hd:(l.map Prod.fst).drop (7+k)=l[7+k].1::(l.map Prod.fst).drop (7+(k+1)):=by
    rw[Brj (by simpa using Y)];simp;rfl
   have b:=Ba I;rw[hd,Tr.inCl]at b;generalize b8:l[7+k].1=c at *;have it:((7:Int)+(k:Int)).toNat=7+k:=Ck;have d3:0<=(7:Int)+(k:Int):=Ck;have d4:(7:Int)+(k:Int)<(l.length:Int):=Ck;clear a4 e1 e2 e3 b8 hd hu a3;subst hg;by_cases h1:7+(k:Int)<=c.above
   ·rw[Th h1]at b;have J:r=7+(k:Int):=by rw[<- b];simp[Tr.badOf]
    have v:=Bc J;clear b J;go_wp2;go_ret;exact⟨by rw[Ba v];rfl,C⟩
   rw[Pk h1]at b;generalize A:Tr.allPlainB (Ct l) c.fields=K at b;have a6:Hid (Tr.allPlainB (Ct l) (c.fields.drop 0)=K):=by unfold Hid;simpa using A
   have a0:=Bc b;clear b A;go_wp2
   go_loopw [5] (fun j w2=>∃m:Nat,m<=c.fields.length/\j=.int .i64 m/\Hid (Tr.allPlainB (Ct l) (c.fields.drop m)=K)/\Below wr.heap.size wr w2/\Below w.heap.size w w2 /\
     w2.heap[w.heap.size]?=some (O11 (some ⟨g,0,none⟩) l.length h q s t))
    (fun j _=>c.fields.length-(intOf j).toNat)
   case atStart=>exact⟨0,Ck,rfl,a6,Brm _ _,C,hx⟩
   case round=>
    obtain⟨m,hm,rfl,L,N,D,B⟩:=hrel;have a7:=a5.kp (Kp.of_below (e:=none) N) Fm;have b9:=N.size;have b4:=D.size;have a8:=Bb B 0;have a9:=Bb B 1;simp at a8 a9;by_cases b5:m<c.fields.length
    ·obtain⟨g2,c3,d5,_,b0⟩:=Cf a7 Ck;obtain⟨t1,t2,t3⟩:=Fu c.fields m b5;have u0:=b0 (m*2) Ck;have u1:=b0 (m*2+1) Ck;rw[t1]at u0;rw[t2]at u1;have b6:c.fields.drop m=c.fields[m]::c.fields.drop (m+1):=Brj b5;have O:=Ba L;rw[b6,Of]at O;generalize c4:c.fields[m].1=Q at *;generalize c5:c.fields[m].2=V at *;have mb:(m:Int)<(c.fields.length:Int):=Ck;clear b0 t1 t2 t3 c4 c5 b6 c0 d1 x0 Z a6;subst c3;have d6:=Sp B;cases F:Tr.plainB (Ct l) Q V with
     | true =>
      have v:Hid (Tr.allPlainB (Ct l) (c.fields.drop (m+1))=K):=by unfold Hid;rw[<- O,F];simp
      have HP:=Bc F;clear F O L;go_wp2
      go_region_held3 (fun f=>f.cell? ⟨w.heap.size,0,none⟩=some (.slice (some ⟨g,0,none⟩) l.length h)/\f.cell? ⟨w.heap.size,1,none⟩=some (.slice q s t)/\f.cell? ⟨g2,m*2,none⟩=some (.int .i64 Q)/\f.cell? ⟨g2,m*2+1,none⟩=some (.int .i64 V))
       (first|go_keep|(go_split_ands;refine⟨?_,?_,?_,?_⟩<;>(rw[z.cell Fr];assumption)))
       (first|(go_at_call 90;refine(show Calls prog _ _ _ _ from by have:=Vo (Ct l) (some ⟨g,0,none⟩) q h s t Q V wr.drew;rw[Jn]at this;exact this).mono ?_;rw[Ba HP];rintro e w3 ⟨rfl,z⟩))
      have b1:Below w.heap.size w w3:=D.drew.trans (z.mono b4);have c6:=N.drew.trans (z.mono b9);have c7:=stay z (show (wr.drew).heap[w.heap.size]?=_ from B);clear z D B N a7 u0 u1 a8 a9;go_wp2;go_roundw
      case rel=>exact⟨m+1,Ck,Mg,v,c6,b1,c7⟩
      case measure=>simp[intOf];omega
     | false =>
      have A:K=false:=by rw[<- O,F];simp
      have b:=Ba a0;rw[A,Th rfl]at b;have J:r=7+(k:Int):=by rw[<- b];simp[Tr.badOf]
      have v:=Bc J;have HP:=Bc F;clear F O L A b J a0;go_wp2
      go_region_held3 (fun f=>f.cell? ⟨w.heap.size,0,none⟩=some (.slice (some ⟨g,0,none⟩) l.length h)/\f.cell? ⟨w.heap.size,1,none⟩=some (.slice q s t)/\f.cell? ⟨g2,m*2,none⟩=some (.int .i64 Q)/\f.cell? ⟨g2,m*2+1,none⟩=some (.int .i64 V))
       (first|go_keep|(go_split_ands;refine⟨?_,?_,?_,?_⟩<;>(rw[z.cell Fr];assumption)))
       (first|(go_at_call 90;refine(show Calls prog _ _ _ _ from by have:=Vo (Ct l) (some ⟨g,0,none⟩) q h s t Q V wr.drew;rw[Jn]at this;exact this).mono ?_;rw[Ba HP];rintro e w3 ⟨rfl,z⟩))
      have b1:Below w.heap.size w w3:=D.drew.trans (z.mono b4);clear z D B N a7 u0 u1 a8 a9;go_wp2;go_ret;exact⟨by rw[Ba v];rfl,b1⟩
    have A:K=true:=by rw[<- Ba L,Brq Ck];rfl
    have b:=Ba a0;rw[A,Pk Hd]at b;have v:=Bc b;clear b A L a0 a6 C hx c0 d1 x0 Z;go_wp2;go_roundw
    case rel=>exact⟨k+1,Ck,Mg,v,D,B⟩
    case measure=>simp[intOf];omega
  have hf:r = -1:=by rw[<- Ba I,Brq Fr];rfl
  have v:=Bc hf;clear hf;go_wp2;go_ret;exact⟨by rw[Ba v];rfl,C⟩
def Rf.classed(s:TB):Int × Int :=
 if 15000<s.length then (1,0)
 else if (Rf.fil s).2.2≠(s.length:Int) then (2,0)
 else if 0<=Tr.badOf (Tr.inCl (Tr.tree (Rf.fil s).1) 0 (Rf.fil s).1) then (3,Tr.badOf (Tr.inCl (Tr.tree (Rf.fil s).1) 0 (Rf.fil s).1))
 else (0,0)
def Kk(l:List (Rd.Cls×Value))(b:List Rd.Cls)(h:l.map Prod.fst=Rf.given++b):Ct l=Tr.tree b/\(l.map Prod.fst).drop 7=b/\l.length=7+b.length:=by
 refine⟨?_,?_,?_⟩
 ·unfold Ct Tr.tree;rw[h,Bse];rfl
 ·rw[h];rfl
 have:=congrArg List.length h;simp[Rf.given]at this;omega
def Bhz(s:TB)(i:Int):(Rf.cls s i).1.fields.length<=1000:=by
 unfold Rf.cls
 split
 ·simp
 simp only;rw[Mx];have:=Rf.cnt_bd s (i+1) 0 4 Ck;omega
def Ac(s:TB):(Rf.fil s).1.length<=6/\∀c∈(Rf.fil s).1,c.fields.length<=1000:=by
 have e:∀k:Nat,(Rf.rep (Rf.cls s) k 3).1.length<=k/\∀c∈(Rf.rep (Rf.cls s) k 3).1,c.fields.length<=1000:=by
  intro k
  induction k with
  | zero=>simp[Rf.rep]
  | succ j ih =>
   unfold Rf.rep
   split
   ·simp
   split
   ·simp
   refine⟨by simp;exact ih.1,?_⟩;intro c b;simp only[Bs1,Bth]at b;rcases b with b|b
   ·exact ih.2 c b
   rw[b];exact Bhz s _
 unfold Rf.fil
 split
 ·simp
 split
 ·simp
 split
 ·simp
 simp only;have f:=Rf.cnt_bd s 2 0 6 Ck;have:=e (Rf.cnt s 2 0 6).toNat
 split
 ·simp
 split
 ·simp
 split
 ·simp
 exact⟨Mc,this.2⟩
def Ow (s:TB)(w:TW)(e:Ending)(w':TW):Prop :=
 ∃a1 n1 c1 a2 n2 c2,e=.returned (.tuple #[.agg #[.slice a1 n1 c1,.slice a2 n2 c2],.int .i64 (Rf.classed s).1,.int .i64 (Rf.classed s).2]) /\
  ((Rf.classed s).1=0->∃l1 l2,l1.map Prod.fst=Rf.given++(Rf.fil s).1/\Hm w' w.heap.size (.slice a1 n1 c1) l1/\l2.map Prod.fst=(Rf.fil s).2.1/\Ks w' w.heap.size (.slice a2 n2 c2) l2)/\Below w.heap.size w w'
def Bcx(s:ByteArray)(w:TW)(c3:s.size<=maxLen):Calls prog 56 #[.string s] w fun e w'=>Ow s.data.toList w e w':=by
 have a6:s.data.toList.length=s.size:=Hd;by_cases h1:15000<s.size
 ·have g:Rf.classed s.data.toList=(1,0):=by unfold Rf.classed;rw[Th Ck]
  unfold Ow;rw[g];have b9:(15000:Int)<(s.size:Int):=Ck;go_in;go_wp2;refine tb (.tuple #[.agg #[.s none 0 0,.s none 0 0],.i 1,.i 0]) (by simp[results,Bvp,go_sem]) ?_;exact⟨none,0,0,none,0,0,rfl,fun h=>absurd h Fm,QN _⟩
 have b9:¬(15000:Int)<(s.size:Int):=Ck;have c0:s.size<=15000:=Ck;have HR:=Bc (fun w=>Bjg s w c0);have a5:=Bc (Ac s.data.toList);by_cases j:(Rf.fil s.data.toList).2.2=(s.data.toList.length:Int)
 ·have K:((Rf.fil s.data.toList).2.2==(s.data.toList.length:Int))=true:=by rw[Bvb];exact j
  have H2:=Bc K;have b4:=Bc j;generalize N:Tr.badOf (Tr.inCl (Tr.tree (Rf.fil s.data.toList).1) 0 (Rf.fil s.data.toList).1)=bd;have b5:=Bc N;by_cases h3:0<=bd
  ·have g:Rf.classed s.data.toList=(3,bd):=by unfold Rf.classed;rw[Pk Ck,Pk (fun h=>h j),N,Th h3]
   unfold Ow;rw[g];clear K j a6 N g;go_in;go_wp2_with fail;refine(Ba HR _).mono ?_;unfold L0;rw[Ba H2];rintro e O ⟨l,n1,m,v,z,A,rfl,Q,B⟩;obtain⟨c,l2,q,L,V,b6⟩:=Q (Ba b4);obtain⟨Y,Z,I⟩:=Kk c _ q;obtain⟨xa,xc,a0⟩:=Bh L.1;simp only[Value.slice.injEq]at a0;obtain⟨rfl,a7,rfl⟩:=a0;subst a7;have t:=stay B (Be w _);have C:=((Brm w.heap.size w).alloc (Bru _) _).trans (B.mono Hd);have a8:=Sp t;have s1:=C.size;have a9:c.length<=13:=by rw[I];have:=(Ba a5).1;omega
   have b0:7<=c.length:=by rw[I];omega
   have a3:∀p∈c,p.1.fields.length<=1000:=by
    intro p hp;have f:p.1∈c.map Prod.fst:=Bsc hp;rw[q,Bs1]at f;rcases f with f|f
    ·simp[Rf.given]at f;rcases f with h|h | h<;>simp[h]
    exact(Ba a5).2 _ f
   have b1:=Bc a3;have b7:=Bc q;have b8:=Bc V;have b2:=Bc Y;have b3:=Bc Z;clear a3 q V Y Z I Q;go_wp2_with fail;refine(Bcz l v m z A _ c _ a9 b0 (Ba b1) (L.kp (Kp.alloc (e:=none) _ _) Fm Fm)).mono ?_;rw[Ba b2,Ba b3,Ba b5];rintro e w2 ⟨rfl,D⟩;have J:=stay D (Bg t _);have D2:=stay D (Be O _);have a4:=(C.alloc s1 _).trans (D.mono Fr);have s2:=a4.size;obtain⟨d0,d1⟩:=cl2 D2;obtain⟨F,G⟩:=cl2 J;obtain⟨g0,g1⟩:=fr2 J;simp at d0 d1 F G;go_wp2_with fail;refine tb (.tuple #[.agg #[.s none 0 0,.s none 0 0],.i 3,.i bd]) (by simp[results,Bvp,go_sem,F,G]) ?_;exact⟨none,0,0,none,0,0,rfl,fun h=>absurd h Fm,by repeat (first|refine Bry ?_ Hd _|exact a4)⟩
  have g:Rf.classed s.data.toList=(0,0):=by unfold Rf.classed;rw[Pk Ck,Pk (fun h=>h j),N,Pk h3]
  unfold Ow;rw[g];clear K j a6 N g;go_in;go_wp2_with fail;refine(Ba HR _).mono ?_;unfold L0;rw[Ba H2];rintro e O ⟨l,n1,m,v,z,A,rfl,Q,B⟩;obtain⟨c,l2,q,L,V,b6⟩:=Q (Ba b4);obtain⟨Y,Z,I⟩:=Kk c _ q;obtain⟨xa,xc,a0⟩:=Bh L.1;simp only[Value.slice.injEq]at a0;obtain⟨rfl,a7,rfl⟩:=a0;subst a7;have t:=stay B (Be w _);have C:=((Brm w.heap.size w).alloc (Bru _) _).trans (B.mono Hd);have a8:=Sp t;have s1:=C.size;have a9:c.length<=13:=by rw[I];have:=(Ba a5).1;omega
  have b0:7<=c.length:=by rw[I];omega
  have a3:∀p∈c,p.1.fields.length<=1000:=by
   intro p hp;have f:p.1∈c.map Prod.fst:=Bsc hp;rw[q,Bs1]at f;rcases f with f|f
   ·simp[Rf.given]at f;rcases f with h|h | h<;>simp[h]
   exact(Ba a5).2 _ f
  have b1:=Bc a3;have b7:=Bc q;have b8:=Bc V;have b2:=Bc Y;have b3:=Bc Z;clear a3 q V Y Z I Q;go_wp2_with fail;refine(Bcz l v m z A _ c _ a9 b0 (Ba b1) (L.kp (Kp.alloc (e:=none) _ _) Fm Fm)).mono ?_;rw[Ba b2,Ba b3,Ba b5];rintro e w2 ⟨rfl,D⟩;have J:=stay D (Bg t _);have D2:=stay D (Be O _);have a4:=(C.alloc s1 _).trans (D.mono Fr);have s2:=a4.size;obtain⟨d0,d1⟩:=cl2 D2;obtain⟨F,G⟩:=cl2 J;obtain⟨g0,g1⟩:=fr2 J;simp at d0 d1 F G;go_wp2_with fail;refine tb (.tuple #[.agg #[.s l c.length m,.s v z A],.i 0,.i 0]) (by simp[results,Bvp,go_sem,F,G]) ?_;have k0:=(Kp.alloc (e:=some 47) (b:=w.heap.size) O (O11 l c.length m v z A)).trans (Kp.of_below D);have k1:=(k0.trans (Kp.set (i:=0) J (.s l c.length m))).trans (Kp.set (i:=1) (Bt (i:=0) J (.s l c.length m)) (.s v z A));exact⟨l,c.length,m,v,z,A,rfl,fun _=>⟨c,l2,Ba b7,(L.mono Hd).kp k1 Fm Fm,Ba b8,(b6.mono Hd).kp k1 Fm Fm Fm Fm⟩,by repeat (first|refine Bry ?_ Hd _|exact a4)⟩
 have g:Rf.classed s.data.toList=(2,0):=by unfold Rf.classed;rw[Pk Ck,Th j]
 have K:((Rf.fil s.data.toList).2.2==(s.data.toList.length:Int))=false:=by rw[Bvj];exact j
 have H2:=Bc K;unfold Ow;rw[g];clear K j a6 g;go_in;go_wp2_with fail;refine(Ba HR _).mono ?_;unfold L0;rw[Ba H2];rintro e O ⟨l,n1,m,v,z,A,rfl,_,B⟩;have t:=stay B (Be w _);have C:=((Brm w.heap.size w).alloc (Bru _) _).trans (B.mono Hd);have a8:=Sp t;obtain⟨F,G⟩:=cl2 t;obtain⟨g0,g1⟩:=fr2 t;simp at F G;have s1:=C.size;go_wp2_with fail;refine tb (.tuple #[.agg #[.s none 0 0,.s none 0 0],.i 2,.i 0]) (by simp[results,Bvp,go_sem,F,G,a8]) ?_;exact⟨none,0,0,none,0,0,rfl,fun h=>absurd h Fm,by repeat (first|refine Bs4 ?_ Fr _|refine Bry ?_ Hd _|exact C)⟩
def Yp(s:TB):(Rd.read s).2=(if 15000<s.length then 1 else if (Rf.fil s).2.2≠(s.length:Int) then 2 else 0)/\((Rd.read s).2=0->(Rd.read s).1.classes=(Rf.fil s).1/\(Rd.read s).1.methods=(Rf.fil s).2.1.map Rf.Mth.m):=by
 obtain⟨g,i⟩:=Rf.fil_same s;unfold Rd.read;by_cases e:15000<s.length;·rw[Th e,Th e];exact⟨rfl,fun h=>absurd h Fm⟩
 rw[Pk e,Pk e];by_cases c:(Rf.fil s).2.2=(s.length:Int);·obtain⟨b,p⟩:=g.2 c;rw[Pk (by rw[b,p];simp),Pk (fun h=>h c)];exact⟨rfl,fun _=>i c⟩
 rw[Th c];have j:(Rd.fil s ⟨0,false⟩).2.bad=true\/(Rd.fil s ⟨0,false⟩).2.pos≠s.length:=by
  rcases Bool.eq_false_or_eq_true (Rd.fil s ⟨0,false⟩).2.bad with f|f
  ·exact .inl f
  right
  intro l;exact c (g.1 ⟨f,l⟩)
 rw[Th j];exact⟨rfl,fun h=>absurd h Fm⟩
def Bdf(s:TB)(t:Rd.St):0<=(Rd.nx s t).1:=by
 unfold Rd.nx
 split
 ·simp
 split
 ·simp
 simp only;omega
def Bcw(s:TB):∀c∈(Rd.read s).1.classes,0<=c.above:=by
 unfold Rd.read
 split
 ·simp
 split
 ·simp
 simp only[Rd.fil];refine Ot (fun c:Rd.Cls=>0<=c.above) _ (fun t=>?_) _ _;simp only[Rd.cls];exact Bdf s t
def Bo2(l:TI)(b:List Rd.Cls):∀k:Nat,(Tr.inCl l k b).1=0->∀i,i<b.length->(b.map Rd.Cls.above).getD i 0<7+(k:Int)+(i:Int):=by
 induction b with
 | nil=>intro k _ i e;simp at e
 | cons c r ih =>
  intro k h i e;unfold Tr.inCl at h;by_cases f:7+(k:Int)<=c.above;·rw[Th f]at h;simp at h
  rw[Pk f]at h;by_cases g:Tr.allPlainB l c.fields=false;·rw[Th g]at h;simp at h
  rw[Pk g]at h;cases i with
  | zero=>simp;omega
  | succ j =>
   have:=ih (k+1) h j (by simpa using e);simp only[Bsw,List.getD_cons_succ];omega
def Bfq(b:List Rd.Cls)(g:∀c∈b,0<=c.above)(h:(Tr.inCl (Tr.tree b) 0 b).1=0):Tr.Ok (Tr.tree b):=by
 refine⟨by rw[Ie];omega,rfl,fun i p l=>?_⟩;rw[Ie]at l;by_cases q:i<7;·have:i=1\/i=2\/i=3\/i=4\/i=5\/i=6:=Ck;rcases this with rfl|rfl|rfl|rfl|rfl|rfl<;>(unfold Tr.tree Tr.given;simp)
 obtain⟨j,rfl⟩:∃j,i=7+j:=⟨i-7,Ck⟩;have f:j<b.length:=Ck;have e:(Tr.tree b).getD (7+j) 0=(b.map Rd.Cls.above).getD j 0:=by
  unfold Tr.tree;rw[Vm,Vm,Br0 (by simp[Tr.given])];simp[Tr.given]
 rw[e];have s:=Bo2 _ b 0 h j f;refine⟨?_,Ck⟩;have m:(b.map Rd.Cls.above).getD j 0=b[j].above:=by simp[Vm,f]
 rw[m];exact g _ (Brn f)
def Bh1(s:TB)(h:(Rf.classed s).1=0):Tr.Ok (Tr.tree (Rf.fil s).1)/\(Rd.read s).1.classes=(Rf.fil s).1:=by
 obtain⟨e,p⟩:=Yp s;unfold Rf.classed at h;by_cases g:15000<s.length;·rw[Th g]at h;simp at h
 rw[Pk g]at h e;by_cases i:(Rf.fil s).2.2≠(s.length:Int);·rw[Th i]at h;simp at h
 rw[Pk i]at h e;have j:=(p e).1;refine⟨Bfq _ (fun c q=>Bcw s c (by rw[j];exact q)) ?_,j⟩;by_cases b:0<=Tr.badOf (Tr.inCl (Tr.tree (Rf.fil s).1) 0 (Rf.fil s).1);·rw[Th b]at h;simp at h
 unfold Tr.badOf at b;by_cases m:(Tr.inCl (Tr.tree (Rf.fil s).1) 0 (Rf.fil s).1).1=0;·exact m
 rw[Pk m]at b
 exfalso
 have t:∀(l:TI) (k:Nat) (f:List Rd.Cls),0<=(Tr.inCl l k f).2:=by
  intro l k f
  induction f generalizing k with
  | nil=>simp[Tr.inCl]
  | cons c r ih =>
   unfold Tr.inCl
   split
   ·simp only;omega
   split
   ·simp only;omega
   exact ih _
 exact b (t _ _ _)
structure OpD where
 kind:Int
 file:ByteArray
 a1:Int
 a2:Int
 b1:Int
 b2:Int
 entry:Int
 heap:Int
 depth:Int
 fuel:Int
 ia:Option Addr
 il:Nat
 ic:Nat
def OpD.val(o:OpD):Value:=.agg #[.int .i64 o.kind,.string o.file,.int .i64 o.a1,.int .i64 o.a2,.int .i64 o.b1,.int .i64 o.b2,.int .i64 o.entry,.int .i64 o.heap,.int .i64 o.depth,.int .i64 o.fuel,.slice o.ia o.il o.ic]
def V7 (w:TW)(a:TA)(len:Nat)(V:Nat->OpD):Prop:=∀i,i<len->∃b off,a=some ⟨b,off,none⟩/\b<w.heap.size /\
 w.cell? ⟨b,off+i*11,none⟩=some (.int .i64 (V i).kind)/\w.cell? ⟨b,off+i*11+1,none⟩=some (.string (V i).file) /\
 w.cell? ⟨b,off+i*11+2,none⟩=some (.int .i64 (V i).a1)/\w.cell? ⟨b,off+i*11+3,none⟩=some (.int .i64 (V i).a2) /\
 w.cell? ⟨b,off+i*11+4,none⟩=some (.int .i64 (V i).b1)/\w.cell? ⟨b,off+i*11+5,none⟩=some (.int .i64 (V i).b2) /\
 w.cell? ⟨b,off+i*11+6,none⟩=some (.int .i64 (V i).entry)/\w.cell? ⟨b,off+i*11+7,none⟩=some (.int .i64 (V i).heap) /\
 w.cell? ⟨b,off+i*11+8,none⟩=some (.int .i64 (V i).depth)/\w.cell? ⟨b,off+i*11+9,none⟩=some (.int .i64 (V i).fuel) /\
 w.cell? ⟨b,off+i*11+10,none⟩=some (.slice (V i).ia (V i).il (V i).ic)
def V7.below{w s:TW}{a:TA}{u:Nat}{V:Nat->OpD}(h:V7 w a u V)(c:Bl w s):V7 s a u V:=by
 intro i f;obtain⟨b,g,j,e,l⟩:=h i f;refine⟨b,g,j,Brs e c.size,?_⟩;simpa only [c.cell (p:=.a b _) e] using l
open Go.ChangeShapes Go.WideShapes Go.ChangeAt Go.RowKit Go.Deep
def Tryz.cellsOp:prog.cellsOf 99=11:=Lt
def Tryz.cellsTy:prog.cellsOf 31=2:=Lt
def Tryz.cellsInt:prog.cellsOf 3=1:=Lt
def Tryz.cellsStr:prog.cellsOf 9=1:=Lt
def Tryz.cellsInts:prog.cellsOf 26=1:=Lt
section
variable {H:Type}{enc:TypeId × Value→H}
def Bn1 (o:OpD):Prop:=o.file.size<=maxLen
end
namespace Cd
def wd (op:Int):Nat:=if op=0\/op=2\/op=3\/(11<=op/\op<=21) then 2 else 1
def wd_bd(op:Int):1<=wd op/\wd op<=2:=by unfold wd;split<;>omega
def starts(c:TI):Nat->Nat->List Nat
 | 0,_=>[]
 | k+1,p=>if p<c.length then p::starts c k (p+wd (c.getD p 0)) else []
def places(c:TI):List Nat:=starts c c.length 0
def starts_end{z:TI}{k b:Nat}(h:z.length<=b):starts z k b=[]:=by
 cases k with
 | zero=>rfl
 | succ j=>unfold starts;rw[Pk Ck]
def starts_go{c:TI}{k p:Nat}(h:p<c.length)(b:c.length<=p+k):∃j,k=j+1/\c.length<=(p+wd (c.getD p 0))+j/\starts c k p=p::starts c j (p+wd (c.getD p 0)):=by
 obtain⟨j,rfl⟩:∃j,k=j+1:=⟨k-1,Ck⟩;have:=wd_bd (c.getD p 0);refine⟨j,rfl,Ck,?_⟩;rw[starts,Th h]
def first(f:Nat->Bool):List Nat->Int
 | []=>-1
 | p::r=>if f p=true then (p:Int) else first f r
def begB (c:TI)(place:Int):Bool:=(places c).any fun p=>(p:Int)==place
def noRead(c:TI)(p:Nat):Bool:=decide (25<c.getD p 0) || decide (c.length<p+wd (c.getD p 0))
def unread(c:TI):Int:=first (noRead c) (places c)
end Cd
structure RMV where
 cl:Int
 nm:Int
 pa:Option Addr
 pl:Nat
 pc:Nat
 r1:Int
 r2:Int
 lo:Int
 st:Int
 code:ByteArray
 ha:Option Addr
 hl:Nat
 hc:Nat
 ma:Option Addr
 ml:Nat
 mc:Nat
 mAt:Int
 fin:Int
def RMV.val(m:RMV):Value:=.agg #[.int .i64 m.cl,.int .i64 m.nm,.slice m.pa m.pl m.pc,.int .i64 m.r1,.int .i64 m.r2,.int .i64 m.lo,.int .i64 m.st,.string m.code,.slice m.ha m.hl m.hc,.slice m.ma m.ml m.mc,.int .i64 m.mAt,.int .i64 m.fin]
def RMV.obj(m:RMV):Obj:=.cells #[.int .i64 m.cl,.int .i64 m.nm,.slice m.pa m.pl m.pc,.int .i64 m.r1,.int .i64 m.r2,.int .i64 m.lo,.int .i64 m.st,.string m.code,.slice m.ha m.hl m.hc,.slice m.ma m.ml m.mc,.int .i64 m.mAt,.int .i64 m.fin] 109 (0,0)
def Ca (s:ByteArray):List Int:=s.data.toList.map fun c=>(c.toNat:Int)
def He(s:ByteArray):(Ca s).length=s.size:=by simp[Ca]
def Kq(s:ByteArray)(p:Nat)(h:p<s.size):(Ca s).getD p 0=(s[p].toNat:Int):=by
 have b:p<s.data.toList.length:=by simpa using h
 simp[Ca,Vm,h];rfl
def Blj(op:Int)(w:TW):Calls prog 139 #[.i op] w fun e b=>e=.r (.i (Cd.wd op:Int))/\b=w:=by
 unfold Cd.wd;by_cases h:op=0\/op=2\/op=3\/(11<=op/\op<=21)
 ·rw[Th h];have c:op=0\/op=2\/op=3\/op=11\/op=12\/op=13\/op=14\/op=15\/op=16\/op=17\/op=18\/op=19\/op=20\/op=21:=Ck;rcases c with rfl|rfl|rfl|rfl|rfl|rfl|rfl|rfl|rfl|rfl|rfl|rfl|rfl|rfl
  all_goals
   go_in;go_wp2;go_ret;exact⟨rfl,rfl⟩
 rw[Pk h];have f:(op==0)=false:=Fr;have g:(op==2)=false:=Fr;have j:(op==3)=false:=Fr;have l:(op==11)=false:=Fr;have m:(op==12)=false:=Fr;have p:(op==13)=false:=Fr;have q:(op==14)=false:=Fr;have s:(op==15)=false:=Fr;have t:(op==16)=false:=Fr;have v:(op==17)=false:=Fr;have z:(op==18)=false:=Fr;have A:(op==19)=false:=Fr;have B:(op==20)=false:=Fr;have C:(op==21)=false:=Fr;go_in;go_wp2;go_ret;exact⟨rfl,rfl⟩
def Lz(m:RMV)(p:Nat)(w:TW)(f:p<m.code.size)(g:m.code.size<=100000):Calls prog 94 #[m.val,.i (p:Int)] w fun e h=>e=.r (.i ((p+Cd.wd ((Ca m.code).getD p 0):Nat):Int))/\Bl w h:=by
 rw[Kq _ _ f];obtain⟨q,s,t,v,z,A,B,C,D,b,F,G,I,J,K,L,N,O⟩:=m;simp only[RMV.val]at f g ⊢;have Q:=Cd.wd_bd ((b[p].toNat:Int));generalize j:Cd.wd ((b[p].toNat:Int))=d at *;have l:=Bc j;have V:(p:Int)<(b.size:Int):=Ck;have Y:∀c:UInt8,IntKind.i64.wrap (c.toNat:Int)=(c.toNat:Int):=fun c=>Cx _ Ck (by have:=c.toNat_lt;omega);go_in;go_wp2_with (go_at_call 139;refine(Blj _ _).mono ?_;rw[Ba l];rintro e Z ⟨rfl,rfl⟩)
 go_ret;exact⟨Hd,QN _⟩
def Mz(m:RMV)(p:Nat)(w:TW)(c:p<m.code.size)(f:m.code.size<=100000):Calls prog 100 #[m.val,.i (p:Int)] w fun e g=>e=.r (.i (Rf.at' m.code.data.toList ((p:Int)+1)))/\Bl w g:=by
 obtain⟨q,s,t,v,z,A,B,C,D,b,F,G,I,J,K,L,N,O⟩:=m;simp only[RMV.val]at c f ⊢;generalize h:Rf.at' b.data.toList ((p:Int)+1)=r;have j:=Bc h;have l:b.size<=maxLen:=Pf;go_in;go_wp2_with (go_at_call 135;refine(Ge b ((p:Int)+1) _ l).mono ?_;rw[Ba j];rintro e Q ⟨rfl,rfl⟩)
 go_ret;exact⟨rfl,QN _⟩
def Ro(m:RMV)(g:Int)(w:TW)(t:m.code.size<=100000):Calls prog 96 #[m.val,.i g] w fun e I=>e=.r (.bool (Cd.begB (Ca m.code) g))/\Bl w I:=by
 have z:=fun p w J=>Lz m p w J t;have A:Bl w (w.alloc m.obj):=QN _;have B:=Be w m.obj;unfold Cd.begB Cd.places;generalize f:(Cd.starts (Ca m.code) (Ca m.code).length 0).any (fun p=>(p:Int)==g)=r;have h:=Bc f;have C:=He m.code;obtain⟨K,L,N,O,Q,V,Y,Z,st,b,ha,a0,hc,ma,ml,mc,a1,a2⟩:=m;simp only[RMV.val,RMV.obj]at z A B t C h ⊢;have HN:=Bc z;have HL:=Bc C;go_in;go_wp2
 go_loopw [5] (fun v wr=>∃p k:Nat,v=.i (p:Int)/\(Ca b).length<=p+k/\p<=200000/\Hid ((Cd.starts (Ca b) k p).any (fun p=>(p:Int)==g)=r)/\Bl w wr /\
   wr.heap[w.heap.size]?=some (O12 K L N O Q V Y Z st b ha a0 hc ma ml mc a1 a2))
  (fun v _=>b.size-(intOf v).toNat)
 case atStart=>exact⟨0,_,rfl,Ck,Ck,h,A,B⟩
 case round=>
  obtain⟨p,k,rfl,hk,b2,h,q,D⟩:=hrel;obtain⟨c0,c1,c2,c3,c4,c5,c6,c7,c8,c9,a3,a4⟩:=El D;simp at c0 c1 c2 c3 c4 c5 c6 c7 c8 c9 a3 a4;have a5:=q.size;by_cases a6:p<b.size
  ·obtain⟨j,rfl,hj,a7⟩:=Cd.starts_go (c:=Ca b) (k:=k) (p:=p) Ck hk;have f:=Ba h;rw[a7,Buj]at f;have a8:(p:Int)<(b.size:Int):=Ck;by_cases F:(p:Int)=g
   ·have s:((p:Int)==g)=true:=by simp[F]
    have l:Hid (r=true):=by unfold Hid;rw[<- f,s];rfl
    go_wp2;go_ret;exact⟨by rw[Ba l];rfl,q⟩
   have s:((p:Int)==g)=false:=by simp[F]
   rw[s,Bool.false_or]at f;have b3:=Cd.wd_bd ((Ca b).getD p 0);have hn:=Ba HN p wr a6;generalize Cd.wd ((Ca b).getD p 0)=d at *;have l:=Bc f;have a9:=Bc hn;go_wp2_with fail;refine Qm (Ba a9) ?_;intro w1 G;have b0:=q.trans (G.mono a5);have b1:=stay G D;go_wp2;go_roundw
   case rel=>exact⟨p+d,j,rfl,hj,Ck,l,b0,b1⟩
   case measure=>simp[intOf];omega
  have f:=Ba h;rw[Cd.starts_end Ck]at f;have l:=Bc f;have a8:¬(p:Int)<(b.size:Int):=Ck;go_wp2;go_ret;exact⟨by rw[<- Ba l];rfl,q⟩
def Beo(m:RMV)(w:TW)(D:m.code.size<=100000):Calls prog 93 #[m.val] w fun e Q=>e=.r (.i (Cd.unread (Ca m.code)))/\Bl w Q:=by
 have F:=fun p w V=>Lz m p w V D;have G:Bl w (w.alloc m.obj):=QN _;have I:=Be w m.obj;unfold Cd.unread Cd.places;generalize f:Cd.first (Cd.noRead (Ca m.code)) (Cd.starts (Ca m.code) (Ca m.code).length 0)=r
 have l:=Bc f;have A:=He m.code;obtain⟨Y,Z,pa,pl,pc,r1,r2,lo,st,b,ha,a0,hc,ma,ml,mc,a1,a2⟩:=m;simp only[RMV.val,RMV.obj]at F G I D A l ⊢;have HN:=Bc F;have HL:=Bc A;go_in;go_wp2
 go_loopw [3] (fun v wr=>∃p k:Nat,v=.i (p:Int)/\(Ca b).length<=p+k/\p<=200000/\Hid (Cd.first (Cd.noRead (Ca b)) (Cd.starts (Ca b) k p)=r)/\Bl w wr /\
   wr.heap[w.heap.size]?=some (O12 Y Z pa pl pc r1 r2 lo st b ha a0 hc ma ml mc a1 a2))
  (fun v _=>b.size-(intOf v).toNat)
 case atStart=>exact⟨0,_,rfl,Ck,Ck,l,G,I⟩
 case round=>
  obtain⟨p,k,rfl,hk,b5,l,q,t⟩:=hrel;obtain⟨c0,c1,c2,c3,c4,c5,c6,c7,c8,c9,a3,a4⟩:=El t;simp at c0 c1 c2 c3 c4 c5 c6 c7 c8 c9 a3 a4;have B:=q.size;by_cases J:p<b.size
  ·obtain⟨j,rfl,hj,a5⟩:=Cd.starts_go (c:=Ca b) (k:=k) (p:=p) Ck hk;have f:=Ba l;rw[a5,Cd.first]at f
   have a6:(p:Int)<(b.size:Int):=Ck;have b6:=Cd.wd_bd ((Ca b).getD p 0);have hn:=fun w=>Ba HN p w J;have a7:Cd.noRead (Ca b) p=(decide (25<b[p].toNat)||decide (b.size<p+Cd.wd ((Ca b).getD p 0))):=by
    unfold Cd.noRead;rw[Kq b p J,A]
    congr 1
    simp only[decide_eq_decide];omega
   rw[a7]at f;generalize Cd.wd ((Ca b).getD p 0)=d at *;have z:=Bc hn;by_cases K:25<b[p].toNat
   ·have a8:(25:Int)<(b[p].toNat:Int):=Ck;have h:Hid ((p:Int)=r):=by unfold Hid;rw[<- f];simp[K]
    go_wp2_with fail;refine Qm (Ba z _) ?_;intro L g;have s:=q.trans (g.mono B);have C:=Bb (stay g t) 7;simp at C;go_wp2;go_ret;exact⟨by rw[<- Ba h];rfl,s⟩
   have a8:¬(25:Int)<(b[p].toNat:Int):=Ck;by_cases N:b.size<p+d
   ·have a9:(b.size:Int)<((p+d:Nat):Int):=Ck;have h:Hid ((p:Int)=r):=by unfold Hid;rw[<- f];simp[N]
    go_wp2_with fail;refine Qm (Ba z _) ?_;intro L g;have s:=q.trans (g.mono B);have C:=Bb (stay g t) 7;simp at C;go_wp2;go_ret;exact⟨by rw[<- Ba h];rfl,s⟩
   have a9:¬(b.size:Int)<((p+d:Nat):Int):=Ck;have h:Hid (Cd.first (Cd.noRead (Ca b)) (Cd.starts (Ca b) j (p+d))=r):=by unfold Hid;rw[<- f];simp[K,N]
   go_wp2_with fail;refine Qm (Ba z _) ?_;intro L g;have s:=q.trans (g.mono B);have O:=stay g t;obtain⟨e0,e1,e2,e3,e4,e5,e6,e7,e8,e9,b0,b1⟩:=El O;simp at e0 e1 e2 e3 e4 e5 e6 e7 e8 e9 b0 b1;go_wp2_with fail;refine Qb (Ba z _) s ?_;intro w2 b2 b3;have b4:=stay b2 O;go_wp2;go_roundw
   case rel=>exact⟨p+d,j,rfl,hj,Ck,h,b3,b4⟩
   case measure=>simp[intOf];omega
  have f:=Ba l;rw[Cd.starts_end Ck]at f;have h:=Bc f;have a6:¬(p:Int)<(b.size:Int):=Ck;go_wp2;go_ret;exact⟨by rw[<- Ba h];rfl,q⟩
def Jm(l:TP):(Bp l).length=l.length*2:=by
 induction l with
 | nil=>rfl
 | cons x r ih=>simp[Bp]at ih ⊢;omega
def Ib(l r:TP):Bp (l++r)=Bp l++Bp r:=by simp[Bp]
def Sg(l:TP):∀u∈Bp l,u.oneCell'=true:=by
 intro u b;simp only[Bp,List.mem_flatMap,Bub,Buh,Bv8]at b;obtain⟨x,_,rfl|rfl⟩:=b<;>rfl
def Bia{w:TW}{z:Array Oper}{A:List Oper}{o:Oper}{a:Act}{Q:Exit->Act->TW->Prop}(B:o.guard=none)(s x:Operand) (C:o.op=.call { callee:=.builtin .append,args:=#[s,x],argTypes:=#[105,105] }) (c N:Nat)(v:TX)(e b:TP)(l:TA)(m vc:Nat)(D:a.eval s=v)(q:w.ownsRow c 31 2 v e.length (Bp e))(F:a.eval x=.s l m vc)(O:Cq w N (.s l m vc) b) (h1:e.length+b.length<=100000)(V:c<=w.heap.size) (h:∀i f,f.ownsRow c 31 2 i (e++b).length (Bp (e++b))->w.grownBy f v.ownBlock->wpList prog z Q A (a.put o.dst i) f):wpList prog z Q (o::A) a w:=by
 obtain⟨G,I,Y,Z,a0⟩:=Bsa Tryz.infoType;obtain⟨hl,⟨t,hn⟩|⟨g,J,a6,t,hb,hg,a7,hm,a8,a1⟩⟩:=O
 ·have a2:b=[]:=Bso hn;subst a2;refine Bwp B s x _ C c 31 G 2 Bsk I v _ _ D q (F.trans t) ?_;exact h v w (by simpa using q) (World.grownBy.refl _ _)
 have a3:(Value.slice l m vc)=.s (.p g) b.length J:=t;refine Br3 w B s x _ C c 31 G _ 2 16 Bsk I Y Z a0 rfl Ck v _ _ D q ⟨g,0,none⟩ b.length J (Bp b) (F.trans a3) (Jm b) ?_ (Sg b) Pf Ck V ?_
 ·intro j u K;have L:j<(Bp b).length:=(List.getElem?_eq_some_iff.1 K).1;rw[Bvc,Brz,Bb hg,<- K,<- a1,Bs0,Th (by rw[hl]at L;exact L)];simp
 intro i f a4 a5 _;exact h i f (by rw[Ws,Ib];exact a4) a5
def Rf.allTo(T:TI)(cs:List Rd.Cls)(c:Int):Nat->List (Int × Int)
 | 0=>[]
 | d+1=>Rf.allTo T cs c d++(if Tr.rbel T c (d:Int)=true then (cs.getD d ⟨0,[]⟩).fields else [])
def Rf.all(T:TI)(cs:List Rd.Cls)(c:Nat):List (Int × Int):=Rf.allTo T cs (c:Int) (c+1)
def W3(T:TI)(b:List Rd.Cls)(c:Int)(e:∀p∈b,p.fields.length<=1000)(d:Nat):(Rf.allTo T b c d).length<=1000*d:=by
 induction d with
 | zero=>simp[Rf.allTo]
 | succ k ih =>
  rw[Rf.allTo,Ws];have:(b.getD k ⟨0,[]⟩).fields.length<=1000:=by
   rw[Vm];rcases h:b[k]? with _|x
   ·simp
   simp;exact e x (Bs6 h)
  split
  ·omega
  rw[Bs2];omega
def Yq(A m:TA)(h q t D:Nat)(l:List (Rd.Cls×Value))(c:Nat)(w:TW)(hl:l.length<=13)(b9:c<l.length)(a0:∀p∈l,p.1.fields.length<=1000)(hc:Hm w D (.s A l.length h) l):Calls prog 201 #[.agg #[.s A l.length h,.s m q t],.i (c:Int)] w fun e w' => ∃F vc,e=.r (.s F (Rf.all (Ct l) (l.map Prod.fst) c).length vc)/\Cq w' w.heap.size (.s F (Rf.all (Ct l) (l.map Prod.fst) c).length vc) (Rf.all (Ct l) (l.map Prod.fst) c)/\Bl w w':=by
 have a4:=fun d=>W3 (Ct l) (l.map Prod.fst) (c:Int) (by intro p hp;obtain⟨x,hx,rfl⟩:=List.mem_map.1 hp;exact a0 x hx) d;have a5:Below (w.heap.size+1) (w.alloc (O11 A l.length h m q t)) (w.alloc (O11 A l.length h m q t)):=Brm _ _;unfold Rf.all;go_in;go_wp2
 go_loopw [5,6] (fun v i wr=>∃d:Nat,d<=c+1/\i=.i (d:Int)/\wr.ownsRow (w.heap.size+1) 31 2 v (Rf.allTo (Ct l) (l.map Prod.fst) (c:Int) d).length (Bp (Rf.allTo (Ct l) (l.map Prod.fst) (c:Int) d)) /\
   Below (w.heap.size+1) (w.alloc (O11 A l.length h m q t)) wr)
  (fun _ i _=>c+1-(intOf i).toNat)
 case atStart=>exact⟨0,Ck,rfl,Brw _ _ _ _,a5⟩
 case round=>
  obtain⟨d,hd,rfl,G,B⟩:=hrel;obtain⟨F,vc,rfl⟩:=Bh G;have a6:=B.size;simp at a6;have hB:Bl w wr:=(QN _).trans (B.mono Ck);have F0:=(B.block w.heap.size Ck).trans (Be w _);obtain⟨x0,x1⟩:=cl2 F0;simp at x0 x1;have N:=hc.kp (Kp.of_below (e:=none) hB) Fm Fm;have c0:=a4 d;by_cases c3:d<=c
  ·have I:d<l.length:=Ck;have a7:(d:Int)<=(c:Int):=Ck;have c4:(d:Int)<(l.length:Int):=Ck;have O:Rf.allTo (Ct l) (l.map Prod.fst) (c:Int) (d+1)=Rf.allTo (Ct l) (l.map Prod.fst) (c:Int) d++(if Tr.rbel (Ct l) (c:Int) (d:Int)=true then l[d].1.fields else []):=by
    rw[Rf.allTo]
    congr 2
    simp[Vm,I]
   obtain⟨g,hg,a8,_,a9⟩:=Cf N.1 Ck;obtain⟨e1,e2,e3⟩:=Nm l d I;have Q:=N.2 _ (Brn I);have c5:=a0 _ (Brn I);obtain⟨V,Y,hu⟩:=Bh Q;rw[hu]at Q;generalize c6:l[d].1.fields=z at *;generalize c7:Rf.allTo (Ct l) (l.map Prod.fst) (c:Int) d=J at *;generalize hb:Tr.rbel (Ct l) (c:Int) (d:Int)=b at O;have HB:=Bc hb;have a3:=Bc N;have b0:=Bc a9;have b1:Hid ((Jt l)[d*2+1]?=some (.s V z.length Y)):=by unfold Hid;rw[e2,hu]
   have b2:=Bc e3;subst hg;cases b with
   | false =>
    have Z:Hid (Rf.allTo (Ct l) (l.map Prod.fst) (c:Int) (d+1)=J):=by unfold Hid;rw[O];simp
    go_wp2_with fail;refine(J9 (.p g) m h q t D l (c:Int) (d:Int) wr Ck (Ba a3)).mono ?_;rw[Ba HB];rintro e w1 ⟨rfl,f⟩;have K:=B.trans (f.mono Ck);have L:=Dc G (Kp.of_below (e:=none) f) Fm;go_wp2;go_roundw
    case rel=>exact⟨d+1,Ck,Mg,by rw[Ba Z];exact L,K⟩
    case measure=>simp[intOf];omega
   | true =>
    have Z:Hid (Rf.allTo (Ct l) (l.map Prod.fst) (c:Int) (d+1)=J++z):=by unfold Hid;rw[O];simp
    go_wp2_with fail;refine(J9 (.p g) m h q t D l (c:Int) (d:Int) wr Ck (Ba a3)).mono ?_;rw[Ba HB];rintro e w1 ⟨rfl,f⟩;have K:=B.trans (f.mono Ck);have L:=Dc G (Kp.of_below (e:=none) f) Fm;have b3:=Q.kp (Kp.of_below (e:=none) f) Fm;have F1:=stay f F0;have y0:=Bb F1 0;have z1:w1.C g (d*2+1) (.s V z.length Y):=QC f a8 ((Ba b0 _ (Ba b2)).trans (Ba b1));have b4:=K.size;simp at y0 b4;have b5:J.length+z.length<=100000:=Ck;go_wp2_with (at_builtin;refine Bia rfl _ _ rfl (w.heap.size+1) D _ J z V z.length Y rfl L rfl b3 b5 Ck ?_)
    intro v' w2 b6 b7;have b8:=K.grown b7 Ck (fun j hj=>(L.lt j hj).1);go_wp2;go_roundw
    case rel=>exact⟨d+1,Ck,Mg,by rw[Ba Z,Ws];exact b6,b8⟩
    case measure=>simp[intOf];omega
  obtain rfl:d=c+1:=Ck;have a7:¬((c+1:Nat):Int)<=(c:Int):=Ck;go_wp2;go_ret;exact⟨F,vc,rfl,D6 G Ck,hB⟩
def Tryz.infoField:(prog.info? 235).map (fun i=>(i.zero,i.size,i.bytes))=some (some (.agg #[.i 0,.i 0,.i 0,.i 0]),4,32):=Lt
structure Rf.Fld where
 owner:Int
 slot:Int
 t:Int × Int
def Lk (l:List Rf.Fld):List Value:=l.flatMap fun x=>[.int .i64 x.owner,.int .i64 x.slot,.int .i64 x.t.1,.int .i64 x.t.2]
def Bfg(l:List Rf.Fld)(x:Rf.Fld):Lk (l++[x])=Lk l++[.i x.owner,.i x.slot,.i x.t.1,.i x.t.2]:=by simp[Lk]
def Rf.ownTo(c base:Int)(own:TP):Nat->List Rf.Fld
 | 0=>[]
 | k+1=>Rf.ownTo c base own k++[⟨c,base+(k:Int),own.getD k (0,0)⟩]
def Rf.ownOf(T:TI)(cs:List Rd.Cls)(c:Nat):List Rf.Fld :=
 Rf.ownTo (c:Int) (((Rf.all T cs c).length:Int)-(((cs.getD c ⟨0,[]⟩).fields.length:Nat):Int)) (cs.getD c ⟨0,[]⟩).fields (cs.getD c ⟨0,[]⟩).fields.length
def Rf.fieldsTo(T:TI)(cs:List Rd.Cls):Nat->List Rf.Fld
 | 0=>[]
 | j+1=>Rf.fieldsTo T cs j++Rf.ownOf T cs (7+j)
def Na(c b:Int)(own:TP)(k:Nat):(Rf.ownTo c b own k).length=k:=by
 induction k with
 | zero=>rfl
 | succ j ih=>simp[Rf.ownTo,ih]
def Bea(T:TI)(b:List Rd.Cls)(c:∀p∈b,p.fields.length<=1000)(j:Nat):(Rf.fieldsTo T b j).length<=1000*j:=by
 induction j with
 | zero=>simp[Rf.fieldsTo]
 | succ k ih =>
  rw[Rf.fieldsTo,Ws,Rf.ownOf,Na];have:(b.getD (7+k) ⟨0,[]⟩).fields.length<=1000:=by
   rw[Vm];rcases h:b[7+k]? with _|x
   ·simp
   simp;exact c x (Bs6 h)
  omega
def N6(F B:TA)(c1 C c2 O:Nat)(l:List (Rd.Cls×Value))(w:TW)(hl:l.length<=13)(f5:7<=l.length)(Q:∀p∈l,p.1.fields.length<=1000)(V:Hm w O (.s F l.length c1) l):Calls prog 140 #[.agg #[.s F l.length c1,.s B C c2]] w fun e w' => ∃L vc,e=.r (.s L (Rf.fieldsTo (Ct l) (l.map Prod.fst) (l.length-7)).length vc)/\w'.ownsRow w.heap.size 235 4 (.s L (Rf.fieldsTo (Ct l) (l.map Prod.fst) (l.length-7)).length vc) (Rf.fieldsTo (Ct l) (l.map Prod.fst) (l.length-7)).length (Lk (Rf.fieldsTo (Ct l) (l.map Prod.fst) (l.length-7)))/\Bl w w':=by
 have a5:∀p∈l.map Prod.fst,p.fields.length<=1000:=by intro p hp;obtain⟨x,hx,rfl⟩:=List.mem_map.1 hp;exact Q x hx
 have b8:=fun j=>Bea (Ct l) (l.map Prod.fst) a5 j;have b9:=fun (c:Nat) d=>W3 (Ct l) (l.map Prod.fst) (c:Int) a5 d;obtain⟨i0,hi,c0,c6,c7⟩:=Bsa Tryz.infoField;have a6:Below (w.heap.size+1) (w.alloc (O11 F l.length c1 B C c2)) (w.alloc (O11 F l.length c1 B C c2)):=Brm _ _;go_in;go_wp2
 go_loopw [3,4] (fun v i wr=>∃j:Nat,7+j<=l.length/\i=.i (7+(j:Int))/\wr.ownsRow (w.heap.size+1) 235 4 v (Rf.fieldsTo (Ct l) (l.map Prod.fst) j).length (Lk (Rf.fieldsTo (Ct l) (l.map Prod.fst) j)) /\
   Below (w.heap.size+1) (w.alloc (O11 F l.length c1 B C c2)) wr)
  (fun _ i _=>l.length-(intOf i).toNat)
 case atStart=>exact⟨0,Ck,rfl,Brw _ _ _ _,a6⟩
 case round=>
  clear a6;obtain⟨j,hj,rfl,m,z⟩:=hrel;obtain⟨L,vc,rfl⟩:=Bh m;have c8:=z.size;simp at c8;have Y:Bl w wr:=(QN _).trans (z.mono Ck);have G:=(z.block w.heap.size Ck).trans (Be w _);obtain⟨x0,x1⟩:=cl2 G;simp at x0 x1;by_cases I:7+j<l.length
  ·have N:=V.kp (Kp.of_below (e:=none) Y) Fm Fm;have c9:(7:Int)+(j:Int)<(l.length:Int):=Ck;obtain⟨g,hg,f6,_,a7⟩:=Cf N.1 Ck;obtain⟨e1,e2,e3⟩:=Nm l (7+j) I;have y1:=(a7 _ e3).trans e2;have A:=N.2 _ (Brn I);have f7:=Q _ (Brn I);obtain⟨ua,uc,J⟩:=Bh A;rw[J]at A y1;have f8:=b8 j;have a8:=b9 (7+j) (7+j+1);have a9:Rf.fieldsTo (Ct l) (l.map Prod.fst) (j+1)=Rf.fieldsTo (Ct l) (l.map Prod.fst) j++Rf.ownTo ((7+j:Nat):Int) (((Rf.all (Ct l) (l.map Prod.fst) (7+j)).length:Int)-((l[7+j].1.fields.length:Nat):Int)) l[7+j].1.fields l[7+j].1.fields.length:=by
    rw[Rf.fieldsTo,Rf.ownOf];have:(l.map Prod.fst).getD (7+j) ⟨0,[]⟩=l[7+j].1:=by simp[Vm,I]
    rw[this]
   generalize d0:l[7+j].1.fields=f at *;generalize d1:Rf.fieldsTo (Ct l) (l.map Prod.fst) j=D at *;have it:((7:Int)+(j:Int)).toNat=7+j:=Ck;have f9:0<=(7:Int)+(j:Int):=Ck;have b0:=Bc N;have Z:=fun w1 d2=>Yq F B c1 C c2 O l (7+j) w1 hl I Q d2;rw[show ((7+j:Nat):Int)=7+(j:Int) by omega]at Z;have g0:(Rf.all (Ct l) (l.map Prod.fst) (7+j)).length<=1000*(7+j+1):=a8;generalize d3:Rf.all (Ct l) (l.map Prod.fst) (7+j)=h at *;have HA:=Bc Z;have HS:=Bc a9;clear N a7 e1 e2 e3 J d0 d1 Z d3 a8 a9;subst hg;go_wp2_with fail;refine(Ba HA _ (Ba b0)).mono ?_;rintro e w1 ⟨la,lc,rfl,_,K⟩;have b1:=z.trans (K.mono Ck);have b2:=Dc m (Kp.of_below (e:=none) K) Fm;have b3:=A.kp (Kp.of_below (e:=none) K) Fm;have F1:=stay K G;clear K z m Y G x0 x1 b0 HA A y1;go_wp2
   rename World=>w1
   go_loopw [3,7] (fun v i wr=>∃k:Nat,k<=f.length/\i=.i (k:Int)/\wr.ownsRow (w.heap.size+1) 235 4 v (D++Rf.ownTo (7+(j:Int)) ((h.length:Int)-(f.length:Int)) f k).length (Lk (D++Rf.ownTo (7+(j:Int)) ((h.length:Int)-(f.length:Int)) f k)) /\
     Cq wr O (.s ua f.length uc) f/\wr.heap[w.heap.size]?=some (O11 (.p g) l.length c1 B C c2)/\Below (w.heap.size+1) (w.alloc (O11 (.p g) l.length c1 B C c2)) wr)
    (fun _ i _=>f.length-(intOf i).toNat)
   case atStart=>exact⟨0,Ck,rfl,by simpa[Rf.ownTo] using b2,b3,F1,b1⟩
   case round=>
    clear b2 b3 F1 b1;obtain⟨k,hk,rfl,m,A,G,z⟩:=hrel;obtain⟨g1,g3,rfl⟩:=Bh m;have d4:=z.size;simp at d4;have a0:(Rf.ownTo (7+(j:Int)) ((h.length:Int)-(f.length:Int)) f k).length=k:=Na _ _ _ _;by_cases b4:k<f.length
    ·obtain⟨g2,d5,g4,_,a3⟩:=Cf A Ck;obtain⟨t1,t2,t3⟩:=Fu f k b4;have u0:=(a3 (k*2) Ck).trans t1;have u1:=(a3 (k*2+1) Ck).trans t2;have b5:Rf.ownTo (7+(j:Int)) ((h.length:Int)-(f.length:Int)) f (k+1)=Rf.ownTo (7+(j:Int)) ((h.length:Int)-(f.length:Int)) f k++[⟨7+(j:Int),(h.length:Int)-(f.length:Int)+(k:Int),(f[k].1,f[k].2)⟩]:=by
      rw[Rf.ownTo];simp[Vm,b4]
     generalize d6:f[k].1=f1 at *;generalize d7:f[k].2=f2 at *;have d8:=Bc b5;have g5:(k:Int)<(f.length:Int):=Ck;have g6:(D++Rf.ownTo (7+(j:Int)) ((h.length:Int)-(f.length:Int)) f k).length<=20000:=by rw[Ws,a0];omega
     generalize b6:D++Rf.ownTo (7+(j:Int)) ((h.length:Int)-(f.length:Int)) f k=xs at *;have d9:=Bc b6;clear b5 a3 t1 t2 t3 d6 d7 b6 a0;subst d5;go_wp2_with (at_builtin;refine Br3 _ rfl _ _ 230 rfl (w.heap.size+1) 235 i0 _ 4 32 underlying230 hi c0 c6 c7 rfl Fm _ _ _ rfl (m.alloc _) ⟨wr.heap.size,0,none⟩ 1 1 [.i (7+(j:Int)),.i ((h.length:Int)-(f.length:Int)+(k:Int)),.i f1,.i f2] rfl rfl ?c1 ?c2 ?c3 ?c4 ?c5 ?_)
     case c1=>exact Dh _ _ _ _ rfl
     case c2=>intro u J;simp at J;rcases J with rfl|rfl|rfl|rfl<;>rfl
     case c3=>unfold maxLen;omega
     case c4=>omega
     case c5=>simp;omega
     intro v' w2 b7 a4 _;have hK:=(Kp.alloc (e:=some 235) (b:=0) wr (O13 (7+(j:Int)) ((h.length:Int)-(f.length:Int)+(k:Int)) f1 f2)).trans (Kp.of_grown a4 (m.alloc _));have f0:=A.kp (e:=some 235) (fun q cs t hq V ht=>hK q cs t (Bsb _) V ht) Fm;have F2:=hK _ _ _ (Bsb _) G Fm;have f3:=(z.alloc Ck _).grown a4 Fr (fun j hj=>(m.lt j hj).1);have f4:w2.ownsRow (w.heap.size+1) 235 4 v' (D++Rf.ownTo (7+(j:Int)) ((h.length:Int)-(f.length:Int)) f (k+1)).length (Lk (D++Rf.ownTo (7+(j:Int)) ((h.length:Int)-(f.length:Int)) f (k+1))):=by
      rw[Ba d8,<- Bsi,Ba d9,Bfg,Ws];exact b7
     clear a4 m b7 z A G hK;go_wp2;go_roundw
     case rel=>exact⟨k+1,Ck,Mg,f4,f0,F2,f3⟩
     case measure=>simp[intOf];omega
    obtain rfl:k=f.length:=Ck;have HF:Hid (Rf.fieldsTo (Ct l) (l.map Prod.fst) (j+1)=D++Rf.ownTo (7+(j:Int)) ((h.length:Int)-(f.length:Int)) f f.length):=by
     unfold Hid;rw[Ba HS,show ((7+j:Nat):Int)=7+(j:Int) by omega]
    clear HS a0;go_wp2;go_roundw
    case rel=>exact⟨j+1,Ck,Mg,by rw[Ba HF];exact m,z⟩
    case measure=>simp[intOf];omega
  obtain rfl:j=l.length-7:=Ck;have c9:¬(7:Int)+((l.length-7:Nat):Int)<(l.length:Int):=Ck;go_wp2;go_ret;exact⟨L,vc,rfl,D6 m Ck,Y⟩
end Go.Proofs.YtpcgnjolfahacaaGreat
