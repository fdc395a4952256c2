/- the proof's parts -/
import Derived.Test.YtpcgnjolfahacaaGreatRows
import Derived.WalkKit
import Derived.WalkSpells
import Derived.WalkLawsBesides
import Derived.Deep.QuietTactic
import Derived.BigQuiet
import Derived.Deep.RegionHeld3
import Derived.Deep.Slices
import Derived.Deep.Strs
import Derived.ProofKit
import Derived.OpenShut
import Derived.ShutString
import Derived.ChangeOld
import Derived.Below
import Derived.Lib.SmallJoins
import Derived.Laws.AppendOwnNone
import Derived.Laws.IdiomStrings
import Derived.Deep.RegionHeld
import Derived.Deep.Cut
import Derived.Deep.CutRange
import Derived.Maps.AppendAt
import Derived.Laws.Rows
import Derived.Laws.Tables
import Derived.Laws.MakeOwn
import Derived.Deep.MidRow
import Derived.ChangeSlices
import Derived.Laws.CopyOwn
import Derived.OwnWalk
import Derived.Laws.OwnMore
import Derived.Deep.RegionLaw
import Derived.Laws.CopyRow
import Derived.SizedLaws
set_option maxRecDepth 100000
set_option maxHeartbeats 40000000
set_option linter.unusedVariables false
set_option linter.unusedSimpArgs false
set_option linter.defProp false
set_option linter.defProp false
abbrev Option.p(k:Nat):Option Go.Addr:=some ⟨k,0,none⟩
namespace Go
abbrev Value.i(n:Int):Value:=.int .i64 n
abbrev Value.s(a:Option Addr)(n c:Nat):Value:=.slice a n c
abbrev TypeDesc.s:=@TypeDesc.slice
abbrev Value.q(b i:Nat):Value:=.pointer (some ⟨b,i,none⟩)
abbrev Ending.r(v:Value):Ending:=.returned v
abbrev Addr.a(b i:Nat):Addr:=⟨b,i,none⟩
abbrev World.C(w:World)(b i:Nat)(v:Value):Prop:=w.cell? ⟨b,i,none⟩=some v
end Go
namespace Go.Proofs.YtpcgnjolfahacaaGreat
open Go.RowKit
abbrev TP:=List (Int × Int)
abbrev TB:=List UInt8
abbrev TA:=Option Addr
abbrev TI:=List Int
abbrev TV:=List Value
abbrev TW:=World
abbrev TX:=Value
theorem tb{P:Program}{fn:Func}{R:Ending→World→Prop}{a:Act}{w:World}(v:Value)(hr:(results fn a.tmps).run P w=.ok v w)(hR:R (.returned v) w)(hd:a.defers=[]:=by rfl):bodyPost P fn R .ret a w:=bodyPost_ret hr hd hR
abbrev Bl(w w':World):Prop:=Below w.heap.size w w'
theorem Qm{P:Program}{f:FuncId}{a:Array Value}{w:World}{v:Ending}{T:World→Prop}{R:Ending→World→Prop}(h:Calls P f a w (fun e x=>e=v∧T x))(k:∀ x,T x→R v x):Calls P f a w R:=h.mono (fun _ _ ⟨z,y⟩=>z▸k _ y)
theorem Qb{P:Program}{f:FuncId}{a:Array Value}{u w:World}{v:Ending}{R:Ending→World→Prop}(h:Calls P f a w (fun e x=>e=v∧Below w.heap.size w x))(g:Below u.heap.size u w)(k:∀ x,Below w.heap.size w x→Below u.heap.size u x→R v x):Calls P f a w R:=Qm h (fun _ y=>k _ y (g.trans (y.mono g.size)))
theorem Bd{p:Prop}(h:p:=by (try simp)<;>omega):p:=h
theorem Ck{p:Prop}(h:p:=by omega):p:=h
theorem Fm{p:Prop}(h:p:=by decide):p:=h
theorem Fr{p:Prop}(h:p:=by simp;omega):p:=h
theorem Hd{p:Prop}(h:p:=by simp):p:=h
theorem Ls{p:Prop}(h:p:=by rfl):p:=h
theorem Lt{p:Prop}(h:p:=by kernel_rfl):p:=h
theorem Mc{p:Prop}(h:p:=by simp only;omega):p:=h
theorem Mg{p:Prop}(h:p:=by go_num):p:=h
theorem Pf{p:Prop}(h:p:=by unfold maxLen;omega):p:=h
def Pk:=@if_neg
def Sp:=@lt_of_block
def Th:=@if_pos
def Vm:=@List.getD_eq_getElem?_getD
def Ws:=@List.length_append
def Brj:=@List.drop_eq_getElem_cons
def Brk:=@Below.heap_setCell
def Brl:=@List.getElem?_eq_getElem
def Brm:=@Below.refl
def Brn:=@List.getElem_mem
def Brp:=@Int.eq_ofNat_of_zero_le
def Brq:=@List.drop_eq_nil_of_le
def Brr:=@World.cell?_of_block
def Brs:=@Nat.lt_of_lt_of_le
def Bru:=@Nat.le_refl
def Brw:=@World.ownsRow_nil
def Brt:=@World.cell?_setCell_far
def Brx:=@Int.toNat_natCast
def Bry:=@Below.setCell
def Brz:=@Nat.zero_add
def Br0:=@List.getElem?_append_right
def Br1:=@List.length_map
def Br3:=@wpList_append_own
def Br2:=@Below.heap_alloc
def Br5:=@Nat.le_trans
def Br6:=@List.getElem?_append_left
def Br8:=@and_true
def Br7:=@List.length_cons
def Br9:=@Tryz.underlying212
def Bsa:=@info_parts
def Bsb:=@Nat.zero_le
def Bsc:=@List.mem_map_of_mem
def Bsd:=@List.mem_cons_self
def Bse:=@List.map_append
def Bsf:=@List.getElem?_map
def Bsh:=@List.mem_cons_of_mem
def Bsi:=@List.append_assoc
def Bsj:=@wpList_load_row
def Bsk:=@Tryz.underlying105
def Br4:=@wp_region_held_drew
def Bsg:=@wpAnyH_done
def Bsl:=@List.length_set
def Bsn:=@List.getElem?_cons_succ
def Bso:=@List.eq_nil_of_length_eq_zero
def Bsp:=@List.set_cons_succ
def Bsq:=@Bool.and_eq_true
def Bsm:=@Nat.zero_mul
def Bri:=@AllReadyH.cons
def Bsr:=@Int.toNat_of_nonneg
def Bss:=@List.take_succ_eq_append_getElem
def Bst:=@List.flatMap_append
def Bsu:=@World.cell?_alloc_lt
def Bs1:=@List.mem_append
def Bsv:=@decide_eq_true_eq
def Bsw:=@List.map_cons
def Bsz:=@List.flatMap_cons
def Bs0:=@List.getElem?_take
def Bs2:=@List.length_nil
def Bs3:=@List.getElem?_eq_none
def Bsy:=@Tryz.results275
def Bs4:=@Below.alloc
def Bs5:=@List.cons_append
def Bta:=@Tryz.underlying26
def Bs6:=@List.mem_of_getElem?
def Bs7:=@List.take_of_length_le
def Wf:=@bodyPost_ret
def Bs8:=@List.length_singleton
def Bs9:=@List.set_append_right
def Bsx:=@Nat.le_of_lt
def Btb:=@Array.size_push
def Btc:=@List.sublist_cons_self
def Btd:=@List.Sublist.cons_cons
def Bte:=@List.filterMap_cons_some
def Btf:=@results_none
def Bth:=@List.mem_singleton
def Bti:=@decide_eq_false_iff_not
def Btj:=@Ne.symm
def Btk:=@List.mem_of_mem_drop
def Btl:=@wpList_append_own_at
def Btm:=@Tryz.underlying3
def Btn:=@List.getElem_cons_zero
def Bto:=@And.intro
def Btp:=@List.reverse_cons
def Btq:=@Prod.ext
def Btg:=@List.append_nil
def Btr:=@List.length_take
def Bts:=@Bool.true_and
def Btt:=@List.getElem?_cons_zero
def Btu:=@Nat.add_sub_cancel_left
def Bro:=@AllReadyH.nil
def Btv:=@if_false
def Btw:=@List.take_take
def Btx:=@DataW.trod_int
def Bty:=@Bool.or_eq_false_iff
def Brv:=@wpAnyH_ready
def Btz:=@List.nil_append
def Bt1:=@List.filterMap_cons_none
def Bt2:=@List.getElem?_set_ne
def Bt3:=@Int.ofNat_eq_natCast
def Bub:=@List.mem_cons
def Bt4:=@List.drop_append_of_le_length
def Bt6:=@Bool.false_and
def Bt7:=@Option.bind_some
def Bt8:=@List.getElem?_set_self
def Bt9:=@ownsRow_setCell_below
def Bua:=@List.take_append_drop
def Buc:=@Nat.add_assoc
def Bud:=@Below.drew
def Bue:=@List.replicate_succ'
def Buf:=@List.set_append_left
def Bt5:=@decide_eq_true
def Buh:=@List.not_mem_nil
def Buj:=@List.any_cons
def Bul:=@Tryz.results186
def Bum:=@Nat.min_eq_left
def Bun:=@wpAnyH_take
def Bug:=@Nat.one_mul
def Buo:=@List.take_append_of_le_length
def Bup:=@List.getElem?_set
def Buq:=@List.getElem?_toArray
def Bur:=@Tryz.results22
def Bus:=@Nat.sub_self
def But:=@List.map_set
def Buv:=@List.take_length
def Buw:=@true_and
def Bux:=@Array.toList_setIfInBounds
def Buy:=@List.take_succ_cons
def Bui:=@all_oneCell_toArray
def Buz:=@List.Sublist.append
def Bu0:=@Array.getElem?_eq_getElem
def Bu1:=@Tryz.results163
def Buk:=@decide_eq_false
def Bu2:=@World.cell?_setCell_other
def Bu3:=@Tryz.results298
def Bu4:=@Tryz.underlying152
def Buu:=@List.map_nil
def Bu5:=@Tryz.underlying116
def Bu6:=@Tryz.results87
def Bu7:=@Int.le_refl
def Bu8:=@List.set_eq_take_append_cons_drop
def Bu9:=@List.any_eq_true
def Bva:=@Tryz.results138
def Bvb:=@beq_iff_eq
def Bvc:=@Addr.add_lit
def Bvd:=@Nat.succ_mul
def Bve:=@Tryz.results162
def Bvf:=@Tryz.results106
def Bvg:=@List.map_map
def Bvh:=@Nat.add_zero
def Bvi:=@Int.natCast_add
def Bvj:=@beq_eq_false_iff_ne
def Bvk:=@List.drop_succ_cons
def Bvl:=@List.getElem_of_mem
def Bvm:=@World.rangeAt_alloc
def Bvn:=@List.length_reverse
def Bvo:=@Tryz.results67
def Bvp:=@Tryz.results56
def Bvq:=@List.Perm.cons
def Bvr:=@Option.isSome_none
def Bvs:=@List.set_cons_zero
def Bvt:=@Nat.lt_of_le_of_lt
def Bvu:=@Nat.add_sub_cancel
def Bvv:=@List.append_of_mem
def Bvw:=@Tryz.underlying113
def Bvx:=@List.pairwise_cons
def Bvy:=@List.take_set
def Bvz:=@List.setIfInBounds_toArray
def Bv0:=@Int.tmod_eq_emod_of_nonneg
def Bv1:=@List.ext_getElem?
def Bv2:=@Result.andThen_ok
def Bv3:=@List.Sublist.refl
def Bv4:=@List.extract_eq_take_drop
def Bv5:=@List.mem_or_eq_of_mem_set
def Bv6:=@List.getElem_append_right
def Bv7:=@if_true
def Bv8:=@or_false
def Bv9:=@List.length_drop
def Bwa:=@setRow_other
def Bwb:=@Option.getD_some
def Bwd:=@List.flatMap_nil
def Bwe:=@World.block_lt_of_cell?
def Bwf:=@List.getLast?_singleton
def Bwg:=@Tryz.results105
def Bwh:=@Tryz.results216
def Bwi:=@Tryz.results227
def Bwj:=@Bool.or_eq_true
def Bwk:=@Tryz.results292
def Bwl:=@Tryz.results129
def Bwm:=@Tryz.results131
def Bwn:=@Tryz.results127
def Bwo:=@ByteArray.data_extract
def Bwp:=@wpList_append_own_none
def Bwq:=@setRow_size
def Bwr:=@Tryz.results68
def Bws:=@Tryz.results45
def Bwt:=@Tryz.results53
def Bwu:=@List.length_replicate
def Bwv:=@Tryz.results21
def Bww:=@List.getElem_set_self
def Bwx:=@Array.toList_extract
def Bwy:=@List.mem_of_mem_take
def Bwz:=@Nat.mul_le_mul_right
def Bw0:=@List.reverse_reverse
def Bw1:=@List.getLast?_append
def Bw2:=@List.dropLast_concat
def Bw3:=@List.all_cons
def Bw4:=@Sem.run_bind
def Bw5:=@Sem.run_pure
def Bw6:=@setRow_heap
def Bw7:=@Nat.mul_one
end Go.Proofs.YtpcgnjolfahacaaGreat
namespace Go.Proofs.YtpcgnjolfahacaaGreat
open Go.RowKit Go.Proofs.Tryz
namespace Rd
structure St where
 pos:Nat
 bad:Bool
def nx (s:TB)(t:St):Int × St :=
 if t.bad=true then (0,⟨t.pos,true⟩)
 else if s.length<=t.pos then (0,⟨t.pos,true⟩)
 else (((s[t.pos]?.getD 0).toNat:Int),⟨t.pos+1,false⟩)
def ex (s:TB)(b:Int)(t:St):St :=
 if (nx s t).1=b then (nx s t).2 else ⟨(nx s t).2.pos,true⟩
def cn (s:TB)(least most:Int)(t:St):Int × St :=
 if (nx s t).1<least then (0,⟨(nx s t).2.pos,true⟩)
 else if most<(nx s t).1 then (0,⟨(nx s t).2.pos,true⟩)
 else nx s t
def ty (s:TB)(t:St):(Int × Int) × St :=
 (((nx s t).1,(nx s (nx s t).2).1),(nx s (nx s t).2).2)
def rep {α:Type}(f:St->α × St):Nat->St->List α × St
 | 0,t=>([],t)
 | k+1,t=>((rep f k t).1++[(f (rep f k t).2).1],(f (rep f k t).2).2)
def rep_len{α:Type}(f:St->α×St)(n:Nat)(t:St):(rep f n t).1.length=n:=by
 induction n with
 | zero=>rfl
 | succ k ih=>simp[rep,ih]
def tys (s:TB)(n:Nat)(t:St):List (Int × Int) × St:=rep (ty s) n t
structure Cls where
 above:Int
 fields:List (Int × Int)
def cls (s:TB)(t:St):Cls × St :=
 let a:=nx s t
 let n:=cn s 0 4 a.2
 let l:=tys s n.1.toNat n.2
 (⟨a.1,l.1⟩,l.2)
def codes(s:TB)(t:St):List Int × St :=
 let n:=cn s 1 120 t
 rep (nx s) n.1.toNat n.2
structure Hnd where
 frm:Int
 til:Int
 target:Int
 cl:Int
def hnd (s:TB)(t:St):Hnd × St :=
 let a:=nx s t
 let b:=nx s a.2
 let c:=nx s b.2
 let d:=nx s c.2
 (⟨a.1,b.1,c.1,d.1⟩,d.2)
def hnds (s:TB)(t:St):List Hnd × St :=
 let n:=cn s 0 4 t
 rep (hnd s) n.1.toNat n.2
structure Mp where
 place:Int
 locals:List (Int × Int)
 stack:List (Int × Int)
def mp (s:TB)(locals stack:Int)(t:St):Mp × St :=
 let a:=nx s t
 let l:=tys s locals.toNat a.2
 let h:=cn s 0 stack l.2
 let k:=tys s h.1.toNat h.2
 (⟨a.1,l.1,k.1⟩,k.2)
def mps (s:TB)(locals stack:Int)(t:St):List Mp × St :=
 let n:=cn s 0 64 t
 rep (mp s locals stack) n.1.toNat n.2
structure Mth where
 cl:Int
 name:Int
 params:List (Int × Int)
 result:Int × Int
 locals:Int
 stack:Int
 code:List Int
 handlers:List Hnd
 maps:List Mp
def mth (s:TB)(t:St):Mth × St :=
 let a:=nx s t
 let b:=nx s a.2
 let p:=cn s 0 4 b.2
 let ps:=tys s p.1.toNat p.2
 let r:=ty s ps.2
 let l:=cn s 0 8 r.2
 let h:=cn s 0 8 l.2
 let c:=codes s h.2
 let hs:=hnds s c.2
 let ms:=mps s l.1 h.1 hs.2
 (⟨a.1,b.1,ps.1,r.1,l.1,h.1,c.1,hs.1,ms.1⟩,ms.2)
structure Fil where
 classes:List Cls
 methods:List Mth
def fil (s:TB)(t:St):Fil × St :=
 let a:=ex s 83 t
 let b:=ex s 77 a
 let n:=cn s 0 6 b
 let cs:=rep (cls s) n.1.toNat n.2
 let m:=cn s 1 6 cs.2
 let ms:=rep (mth s) m.1.toNat m.2
 (⟨cs.1,ms.1⟩,ms.2)
def nx_bd(s:TB)(t:St):0<=(nx s t).1/\(nx s t).1<=255:=by
 unfold nx
 split
 ·simp
 split
 ·simp
 have:=(s[t.pos]?.getD 0).toNat_lt
 constructor<;>simp<;>omega
def cn_bd(s:TB)(a b:Int)(t:St)(c:0<=b):0<=(cn s a b t).1/\(cn s a b t).1<=b:=by
 have:=nx_bd s t;unfold cn
 split
 ·simp[c]
 split
 ·simp[c]
 constructor<;>omega
end Rd
abbrev O0(a0:ByteArray)(a1:Int)(a2:Bool):Obj:=.cells #[.string a0,.int .i64 a1,.bool a2] 177
abbrev O1(a0:Option Addr)(a1 a2:Nat)(a3:Option Addr)(a4 a5:Nat):Obj:=.cells #[.slice a0 a1 a2,.slice a3 a4 a5] 84
abbrev O2(a0:Option Addr)(a1 a2:Nat)(a3:Option Addr)(a4 a5:Nat):Obj:=.cells #[.slice a0 a1 a2,.slice a3 a4 a5] 128
abbrev O3(a0:Option Addr)(a1 a2:Nat)(a3:Option Addr)(a4 a5:Nat)(a6:Option Addr)(a7 a8:Nat)(a9:Option Addr)(a10 a11:Nat)(a12:Option Addr)(a13 a14:Nat)(a15:Option Addr)(a16 a17:Nat)(a18:Option Addr)(a19 a20:Nat):Obj:=.cells #[.slice a0 a1 a2,.slice a3 a4 a5,.slice a6 a7 a8,.slice a9 a10 a11,.slice a12 a13 a14,.slice a15 a16 a17,.slice a18 a19 a20] 105
abbrev O4(a0:Int):Obj:=.cells #[.int .i64 a0] 3
abbrev O5(a0:Int)(a1:Option Addr)(a2 a3:Nat):Obj:=.cells #[.int .i64 a0,.slice a1 a2 a3] 139
abbrev O6(a0:Option Addr)(a1 a2:Nat):Obj:=.cells #[.slice a0 a1 a2] 105
abbrev O7(a0 a1:Int):Obj:=.cells #[.int .i64 a0,.int .i64 a1] 31
abbrev O8(a0 a1 a2:Int):Obj:=.cells #[.int .i64 a0,.int .i64 a1,.int .i64 a2] 86
abbrev O9(a0:Int)(a1:Option Addr)(a2 a3:Nat)(a4:Option Addr)(a5 a6:Nat):Obj:=.cells #[.int .i64 a0,.slice a1 a2 a3,.slice a4 a5 a6] 168
abbrev O10(a0:Int)(a1:Option Addr)(a2 a3:Nat):Obj:=.cells #[.int .i64 a0,.slice a1 a2 a3] 225
abbrev O11(a0:Option Addr)(a1 a2:Nat)(a3:Option Addr)(a4 a5:Nat):Obj:=.cells #[.slice a0 a1 a2,.slice a3 a4 a5] 47
abbrev O12(a0 a1:Int)(a2:Option Addr)(a3 a4:Nat)(a5 a6 a7 a8:Int)(a9:ByteArray)(a10:Option Addr)(a11 a12:Nat)(a13:Option Addr)(a14 a15:Nat)(a16 a17:Int):Obj:=.cells #[.int .i64 a0,.int .i64 a1,.slice a2 a3 a4,.int .i64 a5,.int .i64 a6,.int .i64 a7,.int .i64 a8,.string a9,.slice a10 a11 a12,.slice a13 a14 a15,.int .i64 a16,.int .i64 a17] 109
abbrev O13(a0 a1 a2 a3:Int):Obj:=.cells #[.int .i64 a0,.int .i64 a1,.int .i64 a2,.int .i64 a3] 235
abbrev O14(a0 a1 a2 a3:Int):Obj:=.cells #[.int .i64 a0,.int .i64 a1,.int .i64 a2,.int .i64 a3] 164
abbrev O15(a0 a1 a2:Int):Obj:=.cells #[.int .i64 a0,.int .i64 a1,.int .i64 a2] 219
abbrev O16(a0:Option Addr)(a1 a2:Nat)(a3:Option Addr)(a4 a5:Nat)(a6:Option Addr)(a7 a8:Nat)(a9:Option Addr)(a10 a11:Nat)(a12 a13:Int)(a14:Option Addr)(a15 a16:Nat)(a17 a18 a19 a20:Int)(a21:Option Addr)(a22 a23:Nat)(a24:Option Addr)(a25 a26:Nat)(a27:Option Addr)(a28 a29:Nat)(a30:Option Addr)(a31 a32:Nat):Obj:=.cells #[.slice a0 a1 a2,.slice a3 a4 a5,.slice a6 a7 a8,.slice a9 a10 a11,.int .i64 a12,.int .i64 a13,.slice a14 a15 a16,.int .i64 a17,.int .i64 a18,.int .i64 a19,.int .i64 a20,.slice a21 a22 a23,.slice a24 a25 a26,.slice a27 a28 a29,.slice a30 a31 a32] 253
abbrev O17(a0:Int)(a1:Option Addr)(a2 a3:Nat)(a4:Option Addr)(a5 a6:Nat):Obj:=.cells #[.int .i64 a0,.slice a1 a2 a3,.slice a4 a5 a6] 266
abbrev O18(a0 a1:Int)(a2:Option Addr)(a3 a4:Nat)(a5 a6 a7 a8:Int)(a9:Option Addr)(a10 a11:Nat)(a12:Option Addr)(a13 a14:Nat)(a15:Option Addr)(a16 a17:Nat):Obj:=.cells #[.int .i64 a0,.int .i64 a1,.slice a2 a3 a4,.int .i64 a5,.int .i64 a6,.int .i64 a7,.int .i64 a8,.slice a9 a10 a11,.slice a12 a13 a14,.slice a15 a16 a17] 133
abbrev O19(a0 a1 a2 a3:Int):Obj:=.cells #[.int .i64 a0,.int .i64 a1,.int .i64 a2,.int .i64 a3] 267
abbrev O20(a0 a1 a2 a3:Int):Obj:=.cells #[.int .i64 a0,.int .i64 a1,.int .i64 a2,.int .i64 a3] 31
abbrev O21(a0:Option Addr)(a1 a2:Nat)(a3:Option Addr)(a4 a5:Nat):Obj:=.cells #[.slice a0 a1 a2,.slice a3 a4 a5] 166
abbrev O22(a0:Option Addr)(a1 a2:Nat)(a3:Option Addr)(a4 a5:Nat)(a6:Option Addr)(a7 a8:Nat)(a9:Option Addr)(a10 a11:Nat)(a12:Int)(a13:Bool):Obj:=.cells #[.slice a0 a1 a2,.slice a3 a4 a5,.slice a6 a7 a8,.slice a9 a10 a11,.int .i64 a12,.bool a13] 320
abbrev O23(a0:Option Addr)(a1 a2:Nat)(a3:Option Addr)(a4 a5:Nat):Obj:=.cells #[.slice a0 a1 a2,.slice a3 a4 a5] 188
abbrev O24(a0:Option Addr)(a1 a2:Nat)(a3:Option Addr)(a4 a5:Nat)(a6:Option Addr)(a7 a8:Nat)(a9:Option Addr)(a10 a11:Nat)(a12 a13:Int)(a14:Option Addr)(a15 a16:Nat)(a17 a18 a19 a20:Int)(a21:Option Addr)(a22 a23:Nat)(a24:Option Addr)(a25 a26:Nat)(a27:Option Addr)(a28 a29:Nat)(a30:Option Addr)(a31 a32:Nat):Obj:=.cells #[.slice a0 a1 a2,.slice a3 a4 a5,.slice a6 a7 a8,.slice a9 a10 a11,.int .i64 a12,.int .i64 a13,.slice a14 a15 a16,.int .i64 a17,.int .i64 a18,.int .i64 a19,.int .i64 a20,.slice a21 a22 a23,.slice a24 a25 a26,.slice a27 a28 a29,.slice a30 a31 a32] 183
abbrev O25(a0:Option Addr)(a1 a2:Nat)(a3:Option Addr)(a4 a5:Nat)(a6 a7:Int)(a8:Option Addr)(a9 a10:Nat)(a11 a12 a13 a14:Int)(a15:Option Addr)(a16 a17:Nat)(a18:Option Addr)(a19 a20:Nat)(a21:Option Addr)(a22 a23:Nat)(a24:Option Addr)(a25 a26:Nat)(a27:Option Addr)(a28 a29:Nat)(a30:Option Addr)(a31 a32:Nat)(a33:Option Addr)(a34 a35:Nat)(a36:Option Addr)(a37 a38:Nat)(a39 a40:Int)(a41:Option Addr)(a42 a43:Nat)(a44 a45 a46 a47:Int)(a48:Option Addr)(a49 a50:Nat)(a51:Option Addr)(a52 a53:Nat)(a54:Option Addr)(a55 a56:Nat)(a57:Option Addr)(a58 a59:Nat):Obj:=.cells #[.slice a0 a1 a2,.slice a3 a4 a5,.int .i64 a6,.int .i64 a7,.slice a8 a9 a10,.int .i64 a11,.int .i64 a12,.int .i64 a13,.int .i64 a14,.slice a15 a16 a17,.slice a18 a19 a20,.slice a21 a22 a23,.slice a24 a25 a26,.slice a27 a28 a29,.slice a30 a31 a32,.slice a33 a34 a35,.slice a36 a37 a38,.int .i64 a39,.int .i64 a40,.slice a41 a42 a43,.int .i64 a44,.int .i64 a45,.int .i64 a46,.int .i64 a47,.slice a48 a49 a50,.slice a51 a52 a53,.slice a54 a55 a56,.slice a57 a58 a59] 212
abbrev O26(a0 a1 a2 a3 a4 a5 a6 a7 a8 a9 a10 a11 a12 a13 a14 a15 a16 a17 a18 a19:Int):Obj:=.cells #[.int .i64 a0,.int .i64 a1,.int .i64 a2,.int .i64 a3,.int .i64 a4,.int .i64 a5,.int .i64 a6,.int .i64 a7,.int .i64 a8,.int .i64 a9,.int .i64 a10,.int .i64 a11,.int .i64 a12,.int .i64 a13,.int .i64 a14,.int .i64 a15,.int .i64 a16,.int .i64 a17,.int .i64 a18,.int .i64 a19] 152
abbrev O27(a0:Int)(a1:Option Addr)(a2 a3:Nat):Obj:=.cells #[.int .i64 a0,.slice a1 a2 a3] 215
abbrev O28(a0:Option Addr)(a1 a2:Nat)(a3:Int):Obj:=.cells #[.slice a0 a1 a2,.int .i64 a3] 148
abbrev O29(a0:Int)(a1:Option Addr)(a2 a3:Nat)(a4 a5 a6:Int):Obj:=.cells #[.int .i64 a0,.slice a1 a2 a3,.int .i64 a4,.int .i64 a5,.int .i64 a6] 37
abbrev O30(a0:Option Addr)(a1 a2:Nat)(a3 a4 a5:Int):Obj:=.cells #[.slice a0 a1 a2,.int .i64 a3,.int .i64 a4,.int .i64 a5] 41
abbrev O31(a0:Option Addr)(a1 a2:Nat):Obj:=.cells #[.slice a0 a1 a2] 97
abbrev O32(a0:Option Addr)(a1 a2:Nat):Obj:=.cells #[.slice a0 a1 a2] 26
abbrev O33(a0 a1:Int):Obj:=.cells #[.int .i64 a0,.int .i64 a1] 240
abbrev O34(a0:Int)(a1:Bool)(a2:Option Addr)(a3 a4:Nat):Obj:=.cells #[.int .i64 a0,.bool a1,.slice a2 a3 a4] 118
abbrev O35(a0 a1:Int)(a2:Option Addr)(a3 a4:Nat)(a5:Option Addr)(a6 a7:Nat):Obj:=.cells #[.int .i64 a0,.int .i64 a1,.slice a2 a3 a4,.slice a5 a6 a7] 171
abbrev O36(a0:Int)(a1:ByteArray)(a2 a3 a4 a5 a6 a7 a8 a9:Int)(a10:Option Addr)(a11 a12:Nat):Obj:=.cells #[.int .i64 a0,.string a1,.int .i64 a2,.int .i64 a3,.int .i64 a4,.int .i64 a5,.int .i64 a6,.int .i64 a7,.int .i64 a8,.int .i64 a9,.slice a10 a11 a12] 99
def QB{w s b:TW}(h:Bl w s)(g:Bl s b):Bl w b:=h.trans (g.mono h.size)
def QC{n:Nat}{w s:TW}{p:Addr}{v:Option Value}(h:Below n w s)(l:p.block<n)(f:w.cell? p=v):s.cell? p=v:=(h.cell l).trans f
def QL{n k:Nat}{w s:TW}(h:Below n w s)(l:k<w.heap.size):k<s.heap.size:=Brs l h.size
def QA{w:TW}{o:Obj}{p:Addr}{v:Option Value}(l:p.block<w.heap.size)(f:w.cell? p=v):(w.alloc o).cell? p=v:=(Bsu _ _ _ l).trans f
def QN{w:TW}(o:Obj):Bl w (w.alloc o):=(Brm _ _).alloc (Bru _) o
def QX:(∀(a:Act)(d:Tmp)(v:TX),a.put (some d) v={a with tmps:=a.tmps.setIfInBounds d v})/\(∀(a:Act)(v:TX),a.put none v=a)/\(∀(l:TV)(i:Nat)(v:TX),l.toArray.setIfInBounds i v=(l.set i v).toArray)/\(∀(x:TX)(l:TV)(v:TX),(x::l).set 0 v=v::l)/\(∀(x:TX)(l:TV)(i:Nat)(v:TX),(x::l).set (i+1) v=x::l.set i v):=⟨fun _ _ _=>rfl,fun _ _=>rfl,fun _ _ _=>Hd,fun _ _ _=>rfl,fun _ _ _ _=>rfl⟩
def Gr (B:Nat)(w w':TW):Prop:=w.grownBy w' (some B)
def Gr.refl(B:Nat)(w:TW):Gr B w w:=⟨rfl,rfl,rfl,Bru _,fun _ _ _=>rfl⟩
def Gr.size{u:Nat}{w s:TW}(h:Gr u w s):w.heap.size<=s.heap.size:=World.grownBy.size h
def Gr.blk{u:Nat}{w s:TW}(h:Gr u w s){k:Nat}(b:k<w.heap.size)(c:k≠u):s.heap[k]?=w.heap[k]? :=
 World.grownBy.block h k b (by simpa using c)
def Gr.trans{u:Nat}{a s c:TW}(h:Gr u a s)(k:Gr u s c):Gr u a c :=
 ⟨(World.grownBy.os k).trans (World.grownBy.os h),(World.grownBy.tape k).trans (World.grownBy.tape h),(World.grownBy.output k).trans (World.grownBy.output h),Br5 h.size k.size,
  fun i e f=>(World.grownBy.block k i (Brs e h.size) f).trans (World.grownBy.block h i e f)⟩
def Gr.grown{u:Nat}{a s c:TW}{f:Option Nat}(h:Gr u a s)(k:s.grownBy c f)(p:∀j,f=some j->a.heap.size<=j\/j=u):Gr u a c :=
 ⟨k.os.trans (World.grownBy.os h),k.tape.trans (World.grownBy.tape h),k.output.trans (World.grownBy.output h),Br5 h.size k.size,
  fun i g l=>(k.block i (Brs g h.size) (fun e=>by rcases p i e.symm with m|m<;>first|omega|(subst m;exact l rfl))).trans (World.grownBy.block h i g l)⟩
def Gr.alloc{u:Nat}{a b:TW}(h:Gr u a b)(o:Obj):Gr u a (b.alloc o) :=
 h.grown (World.grownBy_alloc b o none) Hd
def Gr.drew{u:Nat}{a s:TW}(h:Gr u a s):Gr u a s.drew:=by
 have c:a.grownBy s (some u):=h;exact⟨c.os,c.tape,c.output,c.size,c.block⟩
def Gr.drewN{u:Nat}{a s:TW}(h:Gr u a s)(n:Nat):Gr u a (s.drewN n):=by
 have c:a.grownBy s (some u):=h;exact⟨c.os,c.tape,c.output,c.size,c.block⟩
def Ul(w:TW)(p:Addr)(u:TX):w.grownBy (w.setCell p u) (some p.block) :=
 ⟨rfl,rfl,rfl,by simp[World.setCell],fun k _ b=>Brk _ _ _ _ (by simpa using b)⟩
def Gr.set{u:Nat}{a b:TW}(h:Gr u a b){p:Addr}(f:a.heap.size<=p.block\/p.block=u)(c:TX):Gr u a (b.setCell p c) :=
 h.grown (Ul b p c) (by intro j e;simp at e;subst e;exact f)
def Gr.below{u:Nat}{w s:TW}(h:Gr u w s)(c:w.heap.size<=u):Bl w s :=
 ⟨World.grownBy.os h,World.grownBy.tape h,World.grownBy.output h,h.size,fun k b=>h.blk b Ck⟩
def Gr.of_below{u:Nat}{a s c:TW}(h:Gr u a s)(k:Bl s c):Gr u a c :=
 ⟨k.os.trans (World.grownBy.os h),k.tape.trans (World.grownBy.tape h),k.output.trans (World.grownBy.output h),Br5 h.size k.size,
  fun i e f=>(k.block i (Brs e h.size)).trans (World.grownBy.block h i e f)⟩
def Bt{w:TW}{u i:Nat}{G:Array Value}{j:TypeId}(h:w.heap[u]?=some (.cells G j (0,0)))(c:TX):(w.setCell (.a u i) c).heap[u]?=some (.cells (G.setIfInBounds i c) j (0,0)):=by
 have e:=Sp h;have f:w.heap[u]=.cells G j (0,0):=by simpa[Bu0 e] using h
 show (w.heap.modify u _)[u]?=_;rw[Bu0 (by simpa using e),Array.getElem_modify_self,f];rfl
def Bb{w:TW}{u:Nat}{G:Array Value}{j:TypeId}(h:w.heap[u]?=some (.cells G j (0,0)))(i:Nat):w.cell? (.a u i)=G[i]?:=by simp[World.cell?,h]
def Bk{w:TW}{u:Nat}{G:Array Value}{j:TypeId}(h:w.heap[u]?=some (.cells G j (0,0)))(i:Nat):w.frozen? (.a u i)=false:=by simp[World.frozen?,h]
def cl2{w:TW}{k:Nat}{G:Array Value}{j:TypeId}(h:w.heap[k]?=some (.cells G j (0,0))):w.cell? (.a k 0)=G[0]?/\w.cell? (.a k 1)=G[1]?:=⟨Bb h 0,Bb h 1⟩
def cl3{w:TW}{k:Nat}{G:Array Value}{j:TypeId}(h:w.heap[k]?=some (.cells G j (0,0))):w.cell? (.a k 0)=G[0]?/\w.cell? (.a k 1)=G[1]?/\w.cell? (.a k 2)=G[2]?:=⟨Bb h 0,Bb h 1,Bb h 2⟩
def cl4{w:TW}{k:Nat}{G:Array Value}{j:TypeId}(h:w.heap[k]?=some (.cells G j (0,0))):w.cell? (.a k 0)=G[0]?/\w.cell? (.a k 1)=G[1]?/\w.cell? (.a k 2)=G[2]?/\w.cell? (.a k 3)=G[3]?:=⟨Bb h 0,Bb h 1,Bb h 2,Bb h 3⟩
def cl9{w:TW}{k:Nat}{G:Array Value}{j:TypeId}(h:w.heap[k]?=some (.cells G j (0,0))):w.cell? (.a k 0)=G[0]?/\w.cell? (.a k 1)=G[1]?/\w.cell? (.a k 2)=G[2]?/\w.cell? (.a k 3)=G[3]?/\w.cell? (.a k 4)=G[4]?/\w.cell? (.a k 5)=G[5]?/\w.cell? (.a k 6)=G[6]?/\w.cell? (.a k 7)=G[7]?/\w.cell? (.a k 8)=G[8]?:=⟨Bb h 0,Bb h 1,Bb h 2,Bb h 3,Bb h 4,Bb h 5,Bb h 6,Bb h 7,Bb h 8⟩
def Nj{w:TW}{k:Nat}{G:Array Value}{j:TypeId}(h:w.heap[k]?=some (.cells G j (0,0))):w.cell? (.a k 0)=G[0]?/\w.cell? (.a k 1)=G[1]?/\w.cell? (.a k 2)=G[2]?/\w.cell? (.a k 3)=G[3]?/\w.cell? (.a k 4)=G[4]?/\w.cell? (.a k 5)=G[5]?/\w.cell? (.a k 6)=G[6]?/\w.cell? (.a k 7)=G[7]?/\w.cell? (.a k 8)=G[8]?/\w.cell? (.a k 9)=G[9]?:=⟨Bb h 0,Bb h 1,Bb h 2,Bb h 3,Bb h 4,Bb h 5,Bb h 6,Bb h 7,Bb h 8,Bb h 9⟩
def El{w:TW}{k:Nat}{G:Array Value}{j:TypeId}(h:w.heap[k]?=some (.cells G j (0,0))):w.cell? (.a k 0)=G[0]?/\w.cell? (.a k 1)=G[1]?/\w.cell? (.a k 2)=G[2]?/\w.cell? (.a k 3)=G[3]?/\w.cell? (.a k 4)=G[4]?/\w.cell? (.a k 5)=G[5]?/\w.cell? (.a k 6)=G[6]?/\w.cell? (.a k 7)=G[7]?/\w.cell? (.a k 8)=G[8]?/\w.cell? (.a k 9)=G[9]?/\w.cell? (.a k 10)=G[10]?/\w.cell? (.a k 11)=G[11]?:=⟨Bb h 0,Bb h 1,Bb h 2,Bb h 3,Bb h 4,Bb h 5,Bb h 6,Bb h 7,Bb h 8,Bb h 9,Bb h 10,Bb h 11⟩
def Tk{w:TW}{k:Nat}{G:Array Value}{j:TypeId}(h:w.heap[k]?=some (.cells G j (0,0))):w.cell? (.a k 0)=G[0]?/\w.cell? (.a k 1)=G[1]?/\w.cell? (.a k 2)=G[2]?/\w.cell? (.a k 3)=G[3]?/\w.cell? (.a k 4)=G[4]?/\w.cell? (.a k 5)=G[5]?/\w.cell? (.a k 6)=G[6]?/\w.cell? (.a k 7)=G[7]?/\w.cell? (.a k 8)=G[8]?/\w.cell? (.a k 9)=G[9]?/\w.cell? (.a k 10)=G[10]?/\w.cell? (.a k 11)=G[11]?/\w.cell? (.a k 12)=G[12]?/\w.cell? (.a k 13)=G[13]?/\w.cell? (.a k 14)=G[14]?:=⟨Bb h 0,Bb h 1,Bb h 2,Bb h 3,Bb h 4,Bb h 5,Bb h 6,Bb h 7,Bb h 8,Bb h 9,Bb h 10,Bb h 11,Bb h 12,Bb h 13,Bb h 14⟩
def Bnk{w:TW}{k:Nat}{G:Array Value}{j:TypeId}(h:w.heap[k]?=some (.cells G j (0,0))):w.cell? (.a k 0)=G[0]?/\w.cell? (.a k 1)=G[1]?/\w.cell? (.a k 2)=G[2]?/\w.cell? (.a k 3)=G[3]?/\w.cell? (.a k 4)=G[4]?/\w.cell? (.a k 5)=G[5]?/\w.cell? (.a k 6)=G[6]?/\w.cell? (.a k 7)=G[7]?/\w.cell? (.a k 8)=G[8]?/\w.cell? (.a k 9)=G[9]?/\w.cell? (.a k 10)=G[10]?/\w.cell? (.a k 11)=G[11]?/\w.cell? (.a k 12)=G[12]?/\w.cell? (.a k 13)=G[13]?/\w.cell? (.a k 14)=G[14]?/\w.cell? (.a k 15)=G[15]?/\w.cell? (.a k 16)=G[16]?/\w.cell? (.a k 17)=G[17]?/\w.cell? (.a k 18)=G[18]?/\w.cell? (.a k 19)=G[19]?/\w.cell? (.a k 20)=G[20]?/\w.cell? (.a k 21)=G[21]?/\w.cell? (.a k 22)=G[22]?/\w.cell? (.a k 23)=G[23]?/\w.cell? (.a k 24)=G[24]?/\w.cell? (.a k 25)=G[25]?/\w.cell? (.a k 26)=G[26]?/\w.cell? (.a k 27)=G[27]?:=⟨Bb h 0,Bb h 1,Bb h 2,Bb h 3,Bb h 4,Bb h 5,Bb h 6,Bb h 7,Bb h 8,Bb h 9,Bb h 10,Bb h 11,Bb h 12,Bb h 13,Bb h 14,Bb h 15,Bb h 16,Bb h 17,Bb h 18,Bb h 19,Bb h 20,Bb h 21,Bb h 22,Bb h 23,Bb h 24,Bb h 25,Bb h 26,Bb h 27⟩
def fr2{w:TW}{k:Nat}{G:Array Value}{j:TypeId}(h:w.heap[k]?=some (.cells G j (0,0))):w.frozen? (.a k 0)=false/\w.frozen? (.a k 1)=false:=⟨Bk h 0,Bk h 1⟩
def fr3{w:TW}{k:Nat}{G:Array Value}{j:TypeId}(h:w.heap[k]?=some (.cells G j (0,0))):w.frozen? (.a k 0)=false/\w.frozen? (.a k 1)=false/\w.frozen? (.a k 2)=false:=⟨Bk h 0,Bk h 1,Bk h 2⟩
def fr4{w:TW}{k:Nat}{G:Array Value}{j:TypeId}(h:w.heap[k]?=some (.cells G j (0,0))):w.frozen? (.a k 0)=false/\w.frozen? (.a k 1)=false/\w.frozen? (.a k 2)=false/\w.frozen? (.a k 3)=false:=⟨Bk h 0,Bk h 1,Bk h 2,Bk h 3⟩
def Sd{w:TW}{k:Nat}{G:Array Value}{j:TypeId}(h:w.heap[k]?=some (.cells G j (0,0))):w.frozen? (.a k 0)=false/\w.frozen? (.a k 1)=false/\w.frozen? (.a k 2)=false/\w.frozen? (.a k 3)=false/\w.frozen? (.a k 4)=false/\w.frozen? (.a k 5)=false/\w.frozen? (.a k 6)=false/\w.frozen? (.a k 7)=false/\w.frozen? (.a k 8)=false/\w.frozen? (.a k 9)=false/\w.frozen? (.a k 10)=false/\w.frozen? (.a k 11)=false:=⟨Bk h 0,Bk h 1,Bk h 2,Bk h 3,Bk h 4,Bk h 5,Bk h 6,Bk h 7,Bk h 8,Bk h 9,Bk h 10,Bk h 11⟩
def Be(w:TW)(o:Obj):(w.alloc o).heap[w.heap.size]?=some o:=heap_alloc_new w o
def Eg (w:TW)(B:Nat)(s:ByteArray)(t:Rd.St):Prop :=
 w.heap[B]?=some (O0 s t.pos t.bad)
theorem Eg.cells{w:World}{u:Nat}{s:ByteArray}{t:Rd.St}(h:Eg w u s t):w.cell? ⟨u,0,none⟩=some (.string s)/\w.cell? ⟨u,1,none⟩=some (.int .i64 t.pos)/\w.cell? ⟨u,2,none⟩=some (.bool t.bad)/\w.frozen? ⟨u,0,none⟩=false/\w.frozen? ⟨u,1,none⟩=false/\w.frozen? ⟨u,2,none⟩=false:=by
 unfold Eg at h;simp[World.cell?,World.frozen?,h]
def Eg.lt{w:TW}{u:Nat}{s:ByteArray}{t:Rd.St}(h:Eg w u s t):u<w.heap.size:=Sp h
def Eg.alloc{w:TW}{u:Nat}{s:ByteArray}{t:Rd.St}(h:Eg w u s t)(o:Obj):Eg (w.alloc o) u s t:=by
 unfold Eg;rw[Br2 w o u h.lt];exact h
def Eg.set{w:TW}{u:Nat}{s:ByteArray}{t:Rd.St}(h:Eg w u s t){p:Addr}(c:p.block≠u)(b:TX):Eg (w.setCell p b) u s t:=by
 unfold Eg;rw[Brk _ _ _ _ (fun e=>c e.symm)];exact h
def Eg.grown{w s:TW}{u:Nat}{b:ByteArray}{t:Rd.St}{c:Option Nat}(h:Eg w u b t)(e:w.grownBy s c)(f:some u≠c):Eg s u b t:=by
 unfold Eg;rw[e.block u h.lt f];exact h
def Eg.pos{w:TW}{u:Nat}{s:ByteArray}{t:Rd.St}(h:Eg w u s t)(q:Int)(k:Nat)(b:q=k):Eg (w.setCell (.a u 1) (.i q)) u s ⟨k,t.bad⟩:=by
 unfold Eg at h ⊢;rw[Bt h,b];rfl
def Eg.bad{w:TW}{u:Nat}{s:ByteArray}{t:Rd.St}(h:Eg w u s t)(b:Bool):Eg (w.setCell (.a u 2) (.bool b)) u s ⟨t.pos,b⟩:=by
 unfold Eg at h ⊢;rw[Bt h];rfl
def Eg.drewN{w:TW}{u:Nat}{s:ByteArray}{t:Rd.St}(h:Eg w u s t)(n:Nat):Eg (w.drewN n) u s t:=h
def Gr.own{u:Nat}{w s:TW}{k:Nat}{o:Obj}(h:Gr u w s)(b:w.heap[k]?=some o)(c:k≠u):s.heap[k]?=some o:=by
 rw[h.blk (Sp b) c];exact b
def Zq{u b t n:Nat}{j:TypeId}{l:TX}{e:TV}{w s:TW}(h:w.ownsRow b j t l n e)(c:Gr u w s)(i:u<b):s.ownsRow b j t l n e:=by
 refine h.kept c ?_;cases f:l.ownBlock with
 | none=>exact .inl rfl
 | some k=>have:=h.lt k f;right;intro g;simp at g;omega
def Uu{u b t n:Nat}{j:TypeId}{l:TX}{e:TV}{w:TW}(h:w.ownsRow b j t l n e)(f:u<b):some u≠l.ownBlock:=by
 intro c;have:=h.lt u c.symm;omega
def Uv{u b t n:Nat}{j:TypeId}{l:TX}{e:TV}{w:TW}(h:w.ownsRow b j t l n e):∀c,l.ownBlock=some c->b<=c\/c=u :=
 fun c f=>.inl (h.lt c f).1
def D6{u base' t n:Nat}{j:TypeId}{l:TX}{e:TV}{w:TW}(h:w.ownsRow u j t l n e)(p:base'<=u):w.ownsRow base' j t l n e:=by
 obtain⟨c,f|⟨g,i,m,a,b,r⟩⟩:=h
 ·exact⟨c,.inl f⟩
 exact⟨c,.inr ⟨g,i,m,a,Ck,r⟩⟩
def Bh{u b n:Nat}{j:TypeId}{l:TX}{e:TV}{w:TW}(h:w.ownsRow u j b l n e):∃a c,l=.s a n c:=by
 obtain⟨_,⟨rfl,rfl⟩|⟨g,f,i,rfl,_⟩⟩:=h
 ·exact⟨none,0,rfl⟩
 exact⟨_,_,rfl⟩
def Dh(w:TW)(l:TV)(t:TypeId)(g:Nat)(b:w.heap.size=g):∀(j:Nat) (x:TX),l[j]?=some x->(w.alloc (.cells l.toArray t)).cell? ((⟨g,0,none⟩:Addr).add j)=some x:=by
 intro j x c;have e:(⟨g,0,none⟩:Addr).add j=⟨g,j,none⟩:=by unfold Addr.add;split<;>simp_all
 subst b;rw[e,Bb (Be w (.cells l.toArray t (0,0))) j];simpa using c
def Bc{p:Prop}(h:p):Hid p:=h
def Ba{p:Prop}(h:Hid p):p:=h
def Bfw{k:IntKind}{a B:Int}(h:a=B):Ending.returned (.int k a)=.r (.int k B):=by rw[h]
def Bag(c:UInt8):wrap64 (c.toNat:Int)=(c.toNat:Int):=by
 have:=c.toNat_lt;unfold wrap64;omega
def Bqb{s:ByteArray}{u:Nat}(h:u<s.size):Rd.nx s.data.toList ⟨u,false⟩=((s[u].toNat:Int),⟨u+1,false⟩):=by
 have b:u<s.data.toList.length:=by simpa using h
 have e:s.data.toList[u]?.getD 0=s[u]:=by rw[Brl b];rfl
 unfold Rd.nx;rw[Pk Hd,Pk Mc];simp only[e]
def Uy{s:ByteArray}{u:Nat}(h:¬u<s.size):Rd.nx s.data.toList ⟨u,false⟩=(0,⟨u,true⟩):=by
 have b:s.data.toList.length=s.size:=Hd;unfold Rd.nx;rw[Pk Hd,Th Mc]
def Fw{s:ByteArray}{u:Nat}:Rd.nx s.data.toList ⟨u,true⟩=(0,⟨u,true⟩):=by simp[Rd.nx]
def Hp(s:ByteArray)(B:Nat)(t:Rd.St)(w:TW)(h:s.size<=maxLen)(b:Eg w B s t):Calls prog 204 #[.q B 0] w fun e f=>e=.r (.i (Rd.nx s.data.toList t).1)/\Eg f B s (Rd.nx s.data.toList t).2/\Gr B w f:=by
 unfold maxLen at h;obtain⟨v,j,l,z,A,C⟩:=b.cells;obtain⟨c,m⟩:=t;simp only at j l;cases m
 ·by_cases g:c<s.size;·rw[Bqb g];have p:decide ((c:Int)<0)=false:=Hd;go_in;go_wp2;go_quiet (fail);go_wp2;go_quiet (fail);go_wp2;go_ret;exact⟨Bfw (Bag _),(b.drewN _).pos _ _ Ck,((Gr.refl _ _).drewN _).set (.inr rfl) _⟩
  rw[Uy g];have p:decide ((c:Int)<0)=false:=Hd;have g2:decide (s.size<=c)=true:=Fr;go_in;go_wp2;go_quiet (fail);go_wp2;go_ret;exact⟨rfl,(b.drewN _).bad _,((Gr.refl _ _).drewN _).set (.inr rfl) _⟩
 rw[Fw];go_in;go_wp2;go_quiet (fail);go_wp2;go_ret;exact⟨rfl,(b.drewN _).bad _,((Gr.refl _ _).drewN _).set (.inr rfl) _⟩
def Ae(s:ByteArray)(B:Nat)(b:Int)(t:Rd.St)(w:TW)(h:s.size<=maxLen)(j:Eg w B s t):Calls prog 154 #[.q B 0,.i b] w fun e l=>e=.r (.tuple #[])/\Eg l B s (Rd.ex s.data.toList b t)/\Gr B w l:=by
 unfold Rd.ex;generalize p:Rd.nx s.data.toList t=r;have m:=Bc p;by_cases c:r.1=b
 ·rw[Th c];have v:(r.1 != b)=false:=by simp[c]
  have z:=Bc c;go_in;go_wp2_with (go_at_call 204;refine(Hp s B t _ h j).mono ?_;rw[Ba m];rintro e A ⟨rfl,f,g⟩)
  go_end0;exact⟨rfl,f,g⟩
 rw[Pk c];have v:(r.1 != b)=true:=by simp[c]
 have z:=Bc c;go_in;go_wp2_with (go_at_call 204;refine(Hp s B t _ h j).mono ?_;rw[Ba m];rintro e A ⟨rfl,f,g⟩;obtain⟨C,D,F,G,I,J⟩:=f.cells)
 go_end0;exact⟨rfl,f.bad _,g.set (.inr rfl) _⟩
def Kc(s:ByteArray)(B:Nat)(f g:Int)(t:Rd.St)(w:TW)(h:s.size<=maxLen)(j:Eg w B s t):Calls prog 155 #[.q B 0,.i f,.i g] w fun e m=>e=.r (.i (Rd.cn s.data.toList f g t).1)/\Eg m B s (Rd.cn s.data.toList f g t).2/\Gr B w m:=by
 unfold Rd.cn;generalize A:Rd.nx s.data.toList t=r;have l:=Bc A;by_cases p:r.1<f
 ·rw[Th p];go_in;go_wp2_with (go_at_call 204;refine(Hp s B t _ h j).mono ?_;rw[Ba l];rintro e v ⟨rfl,b,c⟩;obtain⟨C,D,F,G,I,J⟩:=b.cells)
  go_ret;exact⟨rfl,b.bad _,c.set (.inr rfl) _⟩
 rw[Pk p];by_cases z:g<r.1
 ·rw[Th z];go_in;go_wp2_with (go_at_call 204;refine(Hp s B t _ h j).mono ?_;rw[Ba l];rintro e v ⟨rfl,b,c⟩;obtain⟨C,D,F,G,I,J⟩:=b.cells)
  go_ret;exact⟨rfl,b.bad _,c.set (.inr rfl) _⟩
 rw[Pk z];go_in;go_wp2_with (go_at_call 204;refine(Hp s B t _ h j).mono ?_;rw[Ba l];rintro e v ⟨rfl,b,c⟩)
 go_ret;exact⟨rfl,b,c⟩
def Xu(s:ByteArray)(B:Nat)(t:Rd.St)(w:TW)(c:s.size<=maxLen)(f:Eg w B s t):Calls prog 206 #[.q B 0] w fun e g=>e=.r (.agg #[.i (Rd.ty s.data.toList t).1.1,.i (Rd.ty s.data.toList t).1.2])/\Eg g B s (Rd.ty s.data.toList t).2/\Gr B w g:=by
 unfold Rd.ty;have J:=f.lt;generalize z:Rd.nx s.data.toList t=b;generalize A:Rd.nx s.data.toList b.2=C;have D:=Bc z;have F:=Bc A;go_in;go_wp2_with fail;refine(Hp s B t _ c (f.alloc _)).mono ?_;rw[Ba D];rintro e K ⟨rfl,G,h⟩;go_wp2_with fail;refine(Hp s B b.2 _ c G).mono ?_;rw[Ba F];rintro e L ⟨rfl,I,j⟩;have l:=j.own (h.own (Be w _) Ck) Ck;obtain⟨m,p⟩:=cl2 l;obtain⟨N,O⟩:=fr2 l;simp only[Buq,Btt,Bsn]at m p;go_wp2_with fail;refine Wf (v:=.agg #[.i b.1,.i C.1]) (by simp[results,results206,go_sem,m,p]) rfl ⟨rfl,(I.set Fr _).set Fr _,?_⟩;exact((((Gr.refl _ _).alloc _).trans (h.trans j)).set (.inl Hd) _).set (.inl Hd) _
def Tryz.infoType:(prog.info? 31).map (fun i=>(i.zero,i.size,i.bytes))=some (some (.agg #[.i 0,.i 0]),2,16):=Lt
def Bp (l:TP):List Value:=l.flatMap fun x=>[.int .i64 x.1,.int .i64 x.2]
def Uf(l:TP)(x:Int×Int):Bp (l++[x])=Bp l++[.i x.1,.i x.2]:=by simp[Bp]
def Tw(s:ByteArray)(B:Nat)(n:Int)(t:Rd.St)(w:TW)(G:s.size<=maxLen)(a2:0<=n)(a3:n<=255)(h:Eg w B s t):Calls prog 205 #[.q B 0,.i n] w fun e b => ∃v,e=.returned v/\b.ownsRow w.heap.size 31 2 v n.toNat (Bp (Rd.tys s.data.toList n.toNat t).1)/\Eg b B s (Rd.tys s.data.toList n.toNat t).2/\Gr B w b:=by
 have j:=h.lt;obtain⟨I,J,K,L,N⟩:=Bsa Tryz.infoType;unfold Rd.tys;go_in;go_wp2
 go_loopw [5,6] (fun v i wr=>∃k:Nat,(k:Int)<=n/\i=.i k/\wr.ownsRow w.heap.size 31 2 v k (Bp (Rd.rep (Rd.ty s.data.toList) k t).1)/\Eg wr B s (Rd.rep (Rd.ty s.data.toList) k t).2/\Gr B w wr)
  (fun _ i _=>n.toNat-(intOf i).toNat)
 case atStart=>exact⟨0,Ck,rfl,Brw _ _ _ _,h,Gr.refl _ _⟩
 case round=>
  obtain⟨k,hk,rfl,l,m,c⟩:=hrel;have a4:=c.size;by_cases a5:(k:Int)<n
  ·generalize O:Rd.rep (Rd.ty s.data.toList) k t=p at *;generalize Q:Rd.ty s.data.toList p.2=q at *;have V:=Bc O;have z:=Bc Q;go_wp2_with fail;refine(Xu s B p.2 _ G m).mono ?_;rw[Ba z];rintro e Y ⟨rfl,Z,f⟩;have a6:=f.size;have g:=Zq l f j;go_wp2_with (at_builtin;refine Br3 _ rfl _ _ 105 rfl w.heap.size 31 I _ 2 16 Bsk J K L N rfl Fm _ _ _ rfl ((g.alloc _).alloc _) ⟨Y.heap.size+1,0,none⟩ 1 1 [.i q.1.1,.i q.1.2] rfl rfl ?c1 ?c2 ?c3 ?c4 ?c5 ?_)
   case c1=>exact Dh _ _ _ _ Hd
   case c2=>intro u A;simp at A;rcases A with rfl|rfl<;>rfl
   case c3=>unfold maxLen;omega
   case c4=>omega
   case c5=>simp;omega
   intro v' w2 C D _;have a0:=((Z.alloc _).alloc _).grown D (Uu g j);have a1:=(((c.trans f).alloc _).alloc _).grown D (Uv g);have e1:(Rd.rep (Rd.ty s.data.toList) (k+1) t)=(p.1++[q.1],q.2):=by simp only[Rd.rep,Ba V,Ba z]
   rw[<- Uf]at C;have F:=Bc e1;go_wp2;go_roundw
   case rel=>exact⟨k+1,Ck,Mg,by rw[Ba F];exact C,by rw[Ba F];exact a0,a1⟩
   case measure=>simp[intOf];omega
  have e:k=n.toNat:=Ck;subst e;go_wp2;go_ret;exact⟨_,rfl,l,m,c⟩
def Kp (e:Option TypeId)(b:Nat)(w w':TW):Prop :=
 ∀k cs t,b<=k->w.heap[k]?=some (.cells cs t (0,0))->some t≠e->w'.heap[k]?=some (.cells cs t (0,0))
def Kp.of_gr{e:Option TypeId}{u b:Nat}{w s:TW}(h:Gr u w s)(f:u<b):Kp e b w s:=by
 intro k g t i c _;rw[h.blk (Sp c) Ck];exact c
def Kp.of_below{e:Option TypeId}{u:Nat}{w s:TW}(h:Bl w s):Kp e u w s:=by
 intro k f t _ c _;rw[h.block k (Sp c)];exact c
def Kp.of_grown{j:TypeId}{b p t n:Nat}{l:TX}{e:TV}{w s:TW}(q:w.grownBy s l.ownBlock)(h:w.ownsRow p j t l n e):Kp (some j) b w s:=by
 intro k A c _ f z;rw[q.block k (Sp f) ?_];exact f;intro i;obtain⟨B,⟨rfl,_⟩|⟨g,C,D,rfl,_,m,_⟩⟩:=h
 ·simp[Value.ownBlock]at i
 simp[Value.ownBlock]at i;subst i;rw[f]at m;simp at m;exact z (by rw[m.2])
def Kp.trans{L:Option TypeId}{u:Nat}{w s c:TW}(h:Kp L u w s)(k:Kp L u s c):Kp L u w c :=
 fun i f t g l j=>k i f t g (h i f t g l j) j
def Kp.alloc{e:Option TypeId}{b:Nat}(w:TW)(o:Obj):Kp e b w (w.alloc o):=by
 intro k f t _ c _;rw[Br2 w o k (Sp c)];exact c
def Kp.set{j:TypeId}{b i:Nat}{w:TW}{t:Nat}{G:Array Value}(h:w.heap[t]?=some (.cells G j (0,0)))(u:TX):Kp (some j) b w (w.setCell (.a t i) u):=by
 intro k p c _ f m;rw[Brk _ _ _ _ ?_];exact f;intro l;simp only at l;subst l;rw[f]at h;simp at h;exact m (by rw[h.2])
def Dc{e:Option TypeId}{u b n:Nat}{j:TypeId}{l:TX}{f:TV}{w s:TW}(h:w.ownsRow u j b l n f)(p:Kp e u w s)(q:some j≠e):s.ownsRow u j b l n f:=by
 obtain⟨i,z|⟨g,A,m,a,c,d,r⟩⟩:=h
 ·exact⟨i,.inl z⟩
 exact⟨i,.inr ⟨g,A,m,a,c,p g m j c d q,r⟩⟩
def Cq (w:TW)(b:Nat)(v:TX)(l:TP):Prop:=w.ownsRow b 31 2 v l.length (Bp l)
def Cq.kp{e:Option TypeId}{u:Nat}{l:TX}{q:TP}{w s:TW}(h:Cq w u l q)(c:Kp e u w s)(f:some 31≠e):Cq s u l q:=Dc h c f
def Cq.mono{u b':Nat}{l:TX}{q:TP}{w:TW}(h:Cq w u l q)(c:b'<=u):Cq w b' l q:=D6 h c
def De (w:TW)(b:Nat)(v:TX)(l:TI):Prop:=w.ownsRow b 3 1 v l.length (l.map (Value.int .i64))
def De.kp{e:Option TypeId}{u:Nat}{l:TX}{z:TI}{w s:TW}(h:De w u l z)(c:Kp e u w s)(f:some 3≠e):De s u l z:=Dc h c f
def De.mono{u b':Nat}{l:TX}{z:TI}{w:TW}(h:De w u l z)(c:b'<=u):De w b' l z:=D6 h c
def Ev (l:List Rd.Hnd):List Value:=l.flatMap fun x=>[.int .i64 x.frm,.int .i64 x.til,.int .i64 x.target,.int .i64 x.cl]
def X7(l:List Rd.Hnd)(x:Rd.Hnd):Ev (l++[x])=Ev l++[.i x.frm,.i x.til,.i x.target,.i x.cl]:=by simp[Ev]
def K8 (w:TW)(b:Nat)(v:TX)(l:List Rd.Hnd):Prop:=w.ownsRow b 267 4 v l.length (Ev l)
def K8.kp{e:Option TypeId}{u:Nat}{l:TX}{c:List Rd.Hnd}{w s:TW}(h:K8 w u l c)(f:Kp e u w s)(g:some 267≠e):K8 s u l c:=Dc h f g
def K8.mono{u b':Nat}{l:TX}{c:List Rd.Hnd}{w:TW}(h:K8 w u l c)(e:b'<=u):K8 w b' l c:=D6 h e
def Jt (l:List (Rd.Cls × Value)):List Value:=l.flatMap fun x=>[.int .i64 x.1.above,x.2]
def Yf(l:List (Rd.Cls×Value))(x:Rd.Cls×Value):Jt (l++[x])=Jt l++[.i x.1.above,x.2]:=by simp[Jt]
def Fh (w:TW)(b:Nat)(v:TX)(l:List (Rd.Cls × Value)):Prop :=
 w.ownsRow b 139 2 v l.length (Jt l)/\∀p∈l,Cq w b p.2 p.1.fields
def Fh.kp{u:Nat}{l:TX}{Q:List (Rd.Cls×Value)}{w s:TW}(h:Fh w u l Q){e:Option TypeId}(c:Kp e u w s)(f:some 139≠e)(g:some 31≠e):Fh s u l Q :=
 ⟨Dc h.1 c f,fun p i=>(h.2 p i).kp c g⟩
def Fh.mono{u b':Nat}{l:TX}{Q:List (Rd.Cls×Value)}{w:TW}(h:Fh w u l Q)(c:b'<=u):Fh w b' l Q:=⟨D6 h.1 c,fun p e=>(h.2 p e).mono c⟩
def Bli (w:TW)(b:Nat)(v:TX)(cs:List Rd.Cls):Prop:=∃l,l.map Prod.fst=cs/\Fh w b v l
def Rt (l:List (Rd.Mp × Value × Value)):List Value:=l.flatMap fun x=>[.int .i64 x.1.place,x.2.1,x.2.2]
def Xx(l:List (Rd.Mp×Value×Value))(x:Rd.Mp×Value×Value):Rt (l++[x])=Rt l++[.i x.1.place,x.2.1,x.2.2]:=by simp[Rt]
def Mf (w:TW)(b:Nat)(v:TX)(l:List (Rd.Mp × Value × Value)):Prop :=
 w.ownsRow b 266 3 v l.length (Rt l)/\∀p∈l,Cq w b p.2.1 p.1.locals/\Cq w b p.2.2 p.1.stack
def Mf.kp{u:Nat}{l:TX}{c:List (Rd.Mp×Value×Value)}{w s:TW}(h:Mf w u l c){e:Option TypeId}(f:Kp e u w s)(j:some 266≠e)(g:some 31≠e):Mf s u l c :=
 ⟨Dc h.1 f j,fun p i=>⟨(h.2 p i).1.kp f g,(h.2 p i).2.kp f g⟩⟩
def Mf.mono{u b':Nat}{l:TX}{c:List (Rd.Mp×Value×Value)}{w:TW}(h:Mf w u l c)(e:b'<=u):Mf w b' l c:=⟨D6 h.1 e,fun p f=>⟨(h.2 p f).1.mono e,(h.2 p f).2.mono e⟩⟩
def Bn6 (w:TW)(b:Nat)(v:TX)(ms:List Rd.Mp):Prop:=∃l,l.map Prod.fst=ms/\Mf w b v l
structure Ex where
 params:Value
 code:Value
 handlers:Value
 maps:Value
def Mb (m:Rd.Mth)(u:Ex):List Value :=
 [.int .i64 m.cl,.int .i64 m.name,u.params,.int .i64 m.result.1,.int .i64 m.result.2,.int .i64 m.locals,.int .i64 m.stack,u.code,u.handlers,u.maps]
def Ud (w:TW)(b:Nat)(m:Rd.Mth)(u:Ex):Prop :=
 Cq w b u.params m.params/\De w b u.code m.code/\K8 w b u.handlers m.handlers/\Bn6 w b u.maps m.maps
def Ud.kp{u:Nat}{K:Rd.Mth}{g:Ex}{w s:TW}(h:Ud w u K g){e:Option TypeId}(i:Kp e u w s)(j:some 31≠e)(p:some 3≠e)(q:some 267≠e)(t:some 266≠e):Ud s u K g:=by
 obtain⟨a,c,d,l,v,f⟩:=h;exact⟨a.kp i j,c.kp i p,d.kp i q,l,v,f.kp i t j⟩
def Ud.mono{u b':Nat}{K:Rd.Mth}{e:Ex}{w:TW}(h:Ud w u K e)(g:b'<=u):Ud w b' K e:=by
 obtain⟨a,c,d,l,i,f⟩:=h;exact⟨a.mono g,c.mono g,d.mono g,l,i,f.mono g⟩
def Lj (l:List (Rd.Mth × Ex)):List Value:=l.flatMap fun x=>Mb x.1 x.2
def Bdh(l:List (Rd.Mth×Ex))(x:Rd.Mth×Ex):Lj (l++[x])=Lj l++Mb x.1 x.2:=by simp[Lj]
def Eb (w:TW)(b:Nat)(v:TX)(l:List (Rd.Mth × Ex)):Prop :=
 w.ownsRow b 133 10 v l.length (Lj l)/\∀p∈l,Ud w b p.1 p.2
def Eb.kp{u:Nat}{l:TX}{T:List (Rd.Mth×Ex)}{w s:TW}(h:Eb w u l T){e:Option TypeId}(c:Kp e u w s)(f:some 133≠e)(g:some 31≠e)(i:some 3≠e)(j:some 267≠e)(m:some 266≠e):Eb s u l T :=
 ⟨Dc h.1 c f,fun p q=>(h.2 p q).kp c g i j m⟩
def Eb.mono{u b':Nat}{l:TX}{T:List (Rd.Mth×Ex)}{w:TW}(h:Eb w u l T)(c:b'<=u):Eb w b' l T:=⟨D6 h.1 c,fun p e=>(h.2 p e).mono c⟩
def Blg (w:TW)(b:Nat)(v:TX)(ms:List Rd.Mth):Prop:=∃l,l.map Prod.fst=ms/\Eb w b v l
def Bx(w:TW)(o b:Obj):((w.alloc o).alloc b).heap[w.heap.size+1]?=some b:=by
 have:=Be (w.alloc o) b;simpa using this
def Cb(w:TW)(o b:Obj):((w.alloc o).alloc b).heap[w.heap.size]?=some o:=by
 rw[Br2 _ _ _ Hd];exact Be w o
def Kp.set_lo{e:Option TypeId}{b g i:Nat}{w:TW}(f:g<b)(u:TX):Kp e b w (w.setCell (.a g i) u):=by
 intro k h t j c _;rw[Brk _ _ _ _ Fr];exact c
def Uq(s:TB)(n:Nat)(t:Rd.St):(Rd.tys s n t).1.length=n:=Rd.rep_len _ _ _
def Bk1(s:ByteArray)(B:Nat)(t:Rd.St)(w:TW)(h:s.size<=maxLen)(C:Eg w B s t):Calls prog 156 #[.q B 0] w fun e j => ∃v,e=.r (.agg #[.i (Rd.cls s.data.toList t).1.above,v])/\Cq j w.heap.size v (Rd.cls s.data.toList t).1.fields/\Eg j B s (Rd.cls s.data.toList t).2/\Gr B w j:=by
 have a7:=C.lt;unfold Rd.cls;dsimp only;generalize L:Rd.nx s.data.toList t=b;generalize D:Rd.cn s.data.toList 0 4 b.2=l;have F:=Rd.cn_bd s.data.toList 0 4 b.2 Ck;rw[D]at F;obtain⟨N,a8⟩:=F;have O:=Bc L;have Q:=Bc D;go_in;go_wp2_with fail;refine(Hp s B t _ h ((C.alloc _).alloc _)).mono ?_;rw[Ba O];rintro e V ⟨rfl,Y,c⟩;have Z:=(((Gr.refl B w).alloc _).alloc _).trans c;have m:=c.own (Bx w _ _) Ck;have hc:=c.own (Cb w _ _) Ck;have p:=Bb m 0;have f0:=Bk m 0;simp only[Buq,Btt]at p;go_wp2_with fail;refine(Kc s B 0 4 b.2 _ h (Y.set Fr _)).mono ?_;rw[Ba Q];rintro e w2 ⟨rfl,a0,f⟩;have G:=(Z.set (.inl Hd) _).trans f;have a1:=f.own (Bt m _) Ck;have a2:=f.own ((Brk V ⟨w.heap.size+1,0,none⟩ (.i b.1) w.heap.size Hd).trans hc) Ck;have a3:=c.size;have a4:=f.size;simp at a3 a4;go_wp2_with fail;refine(Tw s B l.1 l.2 _ h N Ck a0).mono ?_;rintro e w3 ⟨v,rfl,I,a5,z⟩;obtain⟨va,vc,rfl⟩:=Bh I;have a6:=G.size;have A:=z.own a1 Ck;have g:=z.own a2 Ck;have k1:=Bb A 1;have f1:=Bk A 1;have p:=Bb A 0;have J:=Bb g 0;have f2:=Bk g 0;have K:=Bb g 1;have f3:=Bk g 1;simp at p k1 J K;go_wp2_with fail;refine tb (.agg #[.i b.1,.s va l.1.toNat vc]) (by simp[results,results156,go_sem,J,K]) ?_;refine⟨_,rfl,?_,((a5.set Fr _).set Fr _).set Fr _,(((G.trans z).set (.inl Hd) _).set (.inl Hd) _).set (.inl Hd) _⟩;unfold Cq;rw[Uq];exact D6 (Bt9 (Bt9 (Bt9 I Fr _) Fr _) Fr _) a6
def Tryz.infoInt:(prog.info? 3).map (fun i=>(i.zero,i.size,i.bytes))=some (some (.i 0),1,8):=Lt
def Tryz.infoHandler:(prog.info? 267).map (fun i=>(i.zero,i.size,i.bytes))=some (some (.agg #[.i 0,.i 0,.i 0,.i 0]),4,32):=Lt
def Bni(s:ByteArray)(B:Nat)(t:Rd.St)(w:TW)(h:s.size<=maxLen)(j:Eg w B s t):Calls prog 207 #[.q B 0] w fun e b => ∃v,e=.returned v/\De b w.heap.size v (Rd.codes s.data.toList t).1/\Eg b B s (Rd.codes s.data.toList t).2/\Gr B w b:=by
 have l:=j.lt;obtain⟨K,L,N,O,Q⟩:=Bsa Tryz.infoInt;unfold Rd.codes De;dsimp only;rw[Rd.rep_len];generalize m:Rd.cn s.data.toList 1 120 t=r;have z:=Rd.cn_bd s.data.toList 1 120 t Ck;rw[m]at z;obtain⟨a5,a6⟩:=z;have H:=Bc m;go_in;go_wp2_with fail;refine(Kc s B 1 120 t _ h j).mono ?_;rw[Ba H];rintro e w0 ⟨rfl,V,A⟩;have a7:=A.size;go_wp2
 go_loopw [3,5] (fun v i wr=>∃k:Nat,(k:Int)<=r.1/\i=.i k/\wr.ownsRow w.heap.size 3 1 v k ((Rd.rep (Rd.nx s.data.toList) k r.2).1.map (Value.int .i64))/\Eg wr B s (Rd.rep (Rd.nx s.data.toList) k r.2).2/\Gr B w wr)
  (fun _ i _=>r.1.toNat-(intOf i).toNat)
 case atStart=>exact⟨0,Ck,rfl,Brw _ _ _ _,V,A⟩
 case round=>
  obtain⟨k,hk,rfl,C,D,c⟩:=hrel;have a8:=c.size;by_cases a9:(k:Int)<r.1
  ·generalize Y:Rd.rep (Rd.nx s.data.toList) k r.2=p at *;generalize Z:Rd.nx s.data.toList p.2=q at *;have HP:=Bc Y;have F:=Bc Z;go_wp2_with fail;refine(Hp s B p.2 _ h D).mono ?_;rw[Ba F];rintro e w1 ⟨rfl,a0,f⟩;have b0:=f.size;have g:=Zq C f l;go_wp2_with (at_builtin;refine Br3 _ rfl _ _ 26 rfl w.heap.size 3 K _ 1 8 Bta L N O Q rfl Fm _ _ _ rfl (g.alloc _) ⟨w1.heap.size,0,none⟩ 1 1 [.i q.1] rfl rfl ?c1 ?c2 ?c3 ?c4 ?c5 ?_)
   case c1=>exact Dh _ _ _ _ rfl
   case c2=>intro u G;simp at G;subst G;rfl
   case c3=>unfold maxLen;omega
   case c4=>omega
   case c5=>simp;omega
   intro v' w2 a1 I _;have a2:=(a0.alloc _).grown I (Uu g l);have a3:=((c.trans f).alloc _).grown I (Uv g);have e1:(Rd.rep (Rd.nx s.data.toList) (k+1) r.2)=(p.1++[q.1],q.2):=by simp only[Rd.rep,Ba HP,Ba F]
   have a4:w2.ownsRow w.heap.size 3 1 v' (k+1) ((p.1++[q.1]).map (Value.int .i64)):=by simpa using a1
   have J:=Bc e1;go_wp2;go_roundw
   case rel=>exact⟨k+1,Ck,Mg,by rw[Ba J];exact a4,by rw[Ba J];exact a2,a3⟩
   case measure=>simp[intOf];omega
  have e:k=r.1.toNat:=Ck;subst e;go_wp2;go_ret;exact⟨_,rfl,C,D,c⟩
def Bd0(s:ByteArray)(B:Nat)(t:Rd.St)(w:TW)(h:s.size<=maxLen)(J:Eg w B s t):Calls prog 208 #[.q B 0] w fun e z => ∃v,e=.returned v/\K8 z w.heap.size v (Rd.hnds s.data.toList t).1/\Eg z B s (Rd.hnds s.data.toList t).2/\Gr B w z:=by
 have K:=J.lt;obtain⟨i0,hi,a7,a8,a9⟩:=Bsa Tryz.infoHandler;unfold Rd.hnds K8;dsimp only;rw[Rd.rep_len];generalize L:Rd.cn s.data.toList 0 4 t=r;have N:=Rd.cn_bd s.data.toList 0 4 t Ck;rw[L]at N;obtain⟨d5,d6⟩:=N;have H:=Bc L;go_in;go_wp2_with fail;refine(Kc s B 0 4 t _ h J).mono ?_;rw[Ba H];rintro e w0 ⟨rfl,b0,O⟩;have d7:=O.size;go_wp2
 go_loopw [3,5] (fun v i wr=>∃k:Nat,(k:Int)<=r.1/\i=.i k/\wr.ownsRow w.heap.size 267 4 v k (Ev (Rd.rep (Rd.hnd s.data.toList) k r.2).1)/\Eg wr B s (Rd.rep (Rd.hnd s.data.toList) k r.2).2/\Gr B w wr)
  (fun _ i _=>r.1.toNat-(intOf i).toNat)
 case atStart=>exact⟨0,Ck,rfl,Brw _ _ _ _,b0,O⟩
 case round=>
  obtain⟨k,hk,rfl,Q,V,A⟩:=hrel;have d8:=A.size;by_cases d9:(k:Int)<r.1
  ·generalize hp:Rd.rep (Rd.hnd s.data.toList) k r.2=p at *;generalize Y:Rd.nx s.data.toList p.2=c;generalize Z:Rd.nx s.data.toList c.2=f;generalize a0:Rd.nx s.data.toList f.2=g;generalize a1:Rd.nx s.data.toList g.2=b;have HQ:Hid (Rd.hnd s.data.toList p.2=(⟨c.1,f.1,g.1,b.1⟩,b.2)):=by
    unfold Hid Rd.hnd;simp only[Y,Z,a0,a1]
   have HP:=Bc hp;have b1:=Bc Y;have b2:=Bc Z;have b3:=Bc a0;have b4:=Bc a1;have j:wr.heap.size≠B:=Ck;go_wp2_with fail;refine(Hp s B p.2 _ h (V.alloc _)).mono ?_;rw[Ba b1];rintro e w1 ⟨rfl,b5,a2⟩;have b6:=((Gr.refl B wr).alloc _).trans a2;have C:=a2.own (Be wr _) j;have D:=Bb C 0;have f0:=Bk C 0;simp at D;go_wp2_with fail;refine(Hp s B c.2 _ h (b5.set Fr _)).mono ?_;rw[Ba b2];rintro e w2 ⟨rfl,b7,a3⟩;have b8:=(b6.set (.inl Hd) _).trans a3;have l:=a3.own (Bt C _) j;simp at l;have c1:=Bb l 1;have f1:=Bk l 1;simp at c1;go_wp2_with fail;refine(Hp s B f.2 _ h (b7.set Fr _)).mono ?_;rw[Ba b3];rintro e w3 ⟨rfl,b9,a4⟩;have c6:=(b8.set (.inl Hd) _).trans a4;have m:=a4.own (Bt l _) j;simp at m;have c2:=Bb m 2;have f2:=Bk m 2;simp at c2;go_wp2_with fail;refine(Hp s B g.2 _ h (b9.set Fr _)).mono ?_;rw[Ba b4];rintro e w4 ⟨rfl,c7,a5⟩;have c8:=(c6.set (.inl Hd) _).trans a5;have F:=a5.own (Bt m _) j;simp at F;obtain⟨D,c1,c2,c3⟩:=cl4 F;have f3:=Bk F 3;simp at D c1 c2 c3;have G:=c8.set (p:=.a wr.heap.size 3) (.inl Hd) (.i b.1);have I:=Zq Q G K;have c9:=c7.set (p:=.a wr.heap.size 3) Fr (.i b.1);have d0:=G.size;go_wp2_with (at_builtin;refine Br3 _ rfl _ _ 130 rfl w.heap.size 267 i0 _ 4 32 underlying130 hi a7 a8 a9 rfl Fm _ _ _ rfl (I.alloc _) ⟨w4.heap.size,0,none⟩ 1 1 [.i c.1,.i f.1,.i g.1,.i b.1] rfl rfl ?c1 ?c2 ?c3 ?c4 ?c5 ?_)
   case c1=>exact Dh _ _ _ _ Hd
   case c2=>intro u hu;simp at hu;rcases hu with rfl|rfl|rfl|rfl<;>rfl
   case c3=>unfold maxLen;omega
   case c4=>omega
   case c5=>simp at d0 ⊢;omega
   intro v' w5 d1 a6 _;have d2:=(c9.alloc _).grown a6 (Uu I K);have d3:=((A.trans G).alloc _).grown a6 (Uv I);have e1:(Rd.rep (Rd.hnd s.data.toList) (k+1) r.2)=(p.1++[⟨c.1,f.1,g.1,b.1⟩],b.2):=by simp only[Rd.rep,Ba HP,Ba HQ]
   have d4:w5.ownsRow w.heap.size 267 4 v' (k+1) (Ev (p.1++[⟨c.1,f.1,g.1,b.1⟩])):=by rw[X7];exact d1
   have HE:=Bc e1;go_wp2;go_roundw
   case rel=>exact⟨k+1,Ck,Mg,by rw[Ba HE];exact d4,by rw[Ba HE];exact d2,d3⟩
   case measure=>simp[intOf];omega
  have e:k=r.1.toNat:=Ck;subst e;go_wp2;go_ret;exact⟨_,rfl,Q,V,A⟩
def Tryz.infoMap:(prog.info? 266).map (fun i=>(i.zero,i.size,i.bytes))=some (some (.agg #[.i 0,.s none 0 0,.s none 0 0]),3,56):=Lt
def Bmw(s:ByteArray)(B:Nat)(L H:Int)(t:Rd.St)(w:TW)(G:s.size<=maxLen)(f4:0<=L)(h2:L<=8)(f5:0<=H)(h3:H<=8)(hR:Eg w B s t):Calls prog 209 #[.q B 0,.i L,.i H] w fun e w' => ∃v l,e=.returned v/\l.map Prod.fst=(Rd.mps s.data.toList L H t).1/\Mf w' w.heap.size v l/\Eg w' B s (Rd.mps s.data.toList L H t).2/\Gr B w w':=by
 have m:=hR.lt;obtain⟨i0,hi,f6,f7,f8⟩:=Bsa Tryz.infoMap;unfold Rd.mps;dsimp only;generalize hr:Rd.cn s.data.toList 0 64 t=r;have b4:=Rd.cn_bd s.data.toList 0 64 t Ck;rw[hr]at b4;obtain⟨h4,h5⟩:=b4;have HR:=Bc hr;clear hr;go_in;go_wp2_with fail;refine(Kc s B 0 64 t _ G hR).mono ?_;rw[Ba HR];rintro e w0 ⟨rfl,f9,b5⟩;have h6:=b5.size;go_wp2
 go_loopw [7,9] (fun v i wr=>∃(k:Nat) (l:List (Rd.Mp×Value×Value)),(k:Int)<=r.1/\i=.i k/\l.length=k/\l.map Prod.fst=(Rd.rep (Rd.mp s.data.toList L H) k r.2).1/\Mf wr w.heap.size v l/\Eg wr B s (Rd.rep (Rd.mp s.data.toList L H) k r.2).2/\Gr B w wr)
  (fun _ i _=>r.1.toNat-(intOf i).toNat)
 case atStart=>exact⟨0,[],Ck,rfl,rfl,rfl,⟨Brw _ _ _ _,Hd⟩,f9,b5⟩
 case round=>
  obtain⟨k,l,hk,rfl,b6,a5,I,a6,N⟩:=hrel;have h7:=N.size;by_cases h8:(k:Int)<r.1
  ·generalize c:Rd.rep (Rd.mp s.data.toList L H) k r.2=p at *;generalize a7:Rd.nx s.data.toList p.2=z;generalize O:Rd.tys s.data.toList L.toNat z.2=h;generalize Q:Rd.cn s.data.toList 0 H h.2=f;generalize V:Rd.tys s.data.toList f.1.toNat f.2=j;have l2:h.1.length=L.toNat:=by rw[<- O];exact Uq _ _ _
   have l4:j.1.length=f.1.toNat:=by rw[<- V];exact Uq _ _ _
   have b7:=Rd.cn_bd s.data.toList 0 H h.2 f5;rw[Q]at b7;obtain⟨g0,h9⟩:=b7;have HQ:Hid (Rd.mp s.data.toList L H p.2=(⟨z.1,h.1,j.1⟩,j.2)):=by
    unfold Hid Rd.mp;simp only[a7,O,Q,V]
   have HP:=Bc c;have g1:=Bc a7;have g2:=Bc O;have g3:=Bc Q;have g4:=Bc V;have g5:=Bc l2;have g6:=Bc l4;have a8:=Bc b6;have g7:=Bc a5;clear c a7 O Q V l2 l4 b6 a5;have Y:wr.heap.size≠B:=Ck;go_wp2_with fail;refine(Hp s B p.2 _ G (a6.alloc _)).mono ?_;rw[Ba g1];rintro e w1 ⟨rfl,b8,Z⟩;have b9:=((Gr.refl B wr).alloc _).trans Z;have a0:=Z.own (Be wr _) Y;have s1:=Z.size;simp at s1;have J:=Bb a0 0;have f0:=Bk a0 0;simp at J;go_wp2_with fail;clear J f0;refine(Tw s B L z.2 _ G f4 Ck (b8.set Fr _)).mono ?_;rw[Ba g2];rintro e w2 ⟨v1,rfl,a9,c6,b0⟩;obtain⟨va,vc,rfl⟩:=Bh a9;have c7:=(b9.set (.inl Hd) _).trans b0;have A:=b0.own (Bt a0 _) Y;simp at A;have c1:=Bb A 1;have f1:=Bk A 1;simp at c1;have c8:Cq w2 w.heap.size (.s va L.toNat vc) h.1:=by
    unfold Cq;rw[Ba g5];exact D6 a9 Fr
   clear a9;go_wp2_with fail;clear c1 f1;refine(Kc s B 0 H h.2 _ G (c6.set Fr _)).mono ?_;rw[Ba g3];rintro e w3 ⟨rfl,c9,a1⟩;have b1:=(c7.set (.inl Hd) _).trans a1;have b2:=a1.own (Bt A _) Y;simp at b2;have d0:=(c8.kp (Kp.set (i:=1) A (.s va L.toNat vc)) Fm).kp (Kp.of_gr (e:=none) a1 m) Fm;clear c8;go_wp2_with fail;refine(Tw s B f.1 f.2 _ G g0 Ck c9).mono ?_;rw[Ba g4];rintro e w4 ⟨v2,rfl,b3,d1,a2⟩;obtain⟨C,D,rfl⟩:=Bh b3;have d2:=b1.trans a2;have a3:=a2.own b2 Y;have d3:=d0.kp (Kp.of_gr (e:=none) a2 m) Fm;have s3:=b1.size;have d4:Cq w4 w.heap.size (.s C f.1.toNat D) j.1:=by
    unfold Cq;rw[Ba g6];exact D6 b3 Ck
   clear b3 d0;obtain⟨J,c1,c2⟩:=cl3 a3;have f2:=Bk a3 2;simp at J c1 c2;have g:=Kp.set (b:=w.heap.size) (i:=2) a3 (.s C f.1.toNat D);have F:=d2.set (p:=.a wr.heap.size 2) (.inl Hd) (.s C f.1.toNat D);have K:=Zq I.1 F m;have d5:=fun p c=>Bto ((I.2 p c).1.kp (Kp.of_gr (e:=none) F m) Fm) ((I.2 p c).2.kp (Kp.of_gr (e:=none) F m) Fm);have d6:=d3.kp g Fm;have d7:=d4.kp g Fm;have d8:=d1.set (p:=.a wr.heap.size 2) Fr (.s C f.1.toNat D);have g8:=F.size;have d9:=Bc d5;clear d5 a0 A b2 a3 Z b0 a1 a2 b9 c7 b1 d2 b8 c6 c9 d1 d3 d4 g;go_wp2_with (at_builtin;refine Br3 _ rfl _ _ 131 rfl w.heap.size 266 i0 _ 3 56 underlying131 hi f6 f7 f8 rfl Fm _ _ _ rfl (K.alloc _) ⟨w4.heap.size,0,none⟩ 1 1 [.i z.1,.s va L.toNat vc,.s C f.1.toNat D] rfl rfl ?c1 ?c2 ?c3 ?c4 ?c5 ?_)
   case c1=>exact Dh _ _ _ _ Hd
   case c2=>intro u hu;simp at hu;rcases hu with rfl|rfl|rfl<;>rfl
   case c3=>have:=Ba a8;unfold maxLen;omega
   case c4=>have:=Ba a8;omega
   case c5=>simp at g8 ⊢;omega
   intro v' w5 f3 a4 _;have g9:=(d8.alloc _).grown a4 (Uu K m);have h0:=((N.trans F).alloc _).grown a4 (Uv K);have g:=(Kp.alloc (e:=some 266) (b:=w.heap.size) _ _).trans (Kp.of_grown a4 (K.alloc _));have h1:Mf w5 w.heap.size v' (l++[(⟨z.1,h.1,j.1⟩,.s va L.toNat vc,.s C f.1.toNat D)]):=by
    refine⟨?_,?_⟩
    ·rw[Xx,Ws];exact f3
    intro p c;rw[Bs1]at c;rcases c with c|c
    ·exact⟨(Ba d9 p c).1.kp g Fm,(Ba d9 p c).2.kp g Fm⟩
    simp only[Bth]at c;subst c;exact⟨d6.kp g Fm,d7.kp g Fm⟩
   have e1:(Rd.rep (Rd.mp s.data.toList L H) (k+1) r.2)=(p.1++[⟨z.1,h.1,j.1⟩],j.2):=by simp only[Rd.rep,Ba HP,Ba HQ]
   have HE:=Bc e1;have HK:=Bc g;clear e1 a4 K f3 a6 d8 F N J c1 c2 f2 g d6 d7 I;go_wp2;go_roundw
   case rel=>exact⟨k+1,_,Ck,Mg,by rw[Ws,Ba a8];rfl,by rw[Ba HE,Bse,Ba g7];rfl,h1,by rw[Ba HE];exact g9,h0⟩
   case measure=>simp[intOf];omega
  have e:k=r.1.toNat:=Ck;subst e;go_wp2;go_ret;exact⟨_,rfl,l,a5,I,a6,N⟩
def Du{w:TW}{k:Nat}{o:Obj}(h:w.heap[k]?=some o){p:Addr}(b:k≠p.block)(u:TX):(w.setCell p u).heap[k]?=some o:=by
 rw[Brk _ _ _ _ b];exact h
def Bhg(s:ByteArray)(B:Nat)(t:Rd.St)(w:TW)(m:s.size<=maxLen)(hR:Eg w B s t):Calls prog 157 #[.q B 0] w fun e w' => ∃a1 m1 d1 a2 m2 d2 a3 m3 d3 v m4 z,e=.r (.agg #[.i (Rd.mth s.data.toList t).1.cl,.i (Rd.mth s.data.toList t).1.name,.s a1 m1 d1,.i (Rd.mth s.data.toList t).1.result.1,.i (Rd.mth s.data.toList t).1.result.2,.i (Rd.mth s.data.toList t).1.locals,.i (Rd.mth s.data.toList t).1.stack,.s a2 m2 d2,.s a3 m3 d3,.s v m4 z])/\Ud w' w.heap.size (Rd.mth s.data.toList t).1 ⟨.s a1 m1 d1,.s a2 m2 d2,.s a3 m3 d3,.s v m4 z⟩/\Eg w' B s (Rd.mth s.data.toList t).2/\Gr B w w':=by
 have G:=hR.lt;unfold Rd.mth;dsimp only;generalize i0:Rd.nx s.data.toList t=Q;generalize i1:Rd.nx s.data.toList Q.2=K;generalize h1:Rd.cn s.data.toList 0 4 K.2=h;generalize h2:Rd.tys s.data.toList h.1.toNat h.2=q4;generalize i2:Rd.ty s.data.toList q4.2=g;generalize h3:Rd.cn s.data.toList 0 8 g.2=j;generalize h4:Rd.cn s.data.toList 0 8 j.2=A;generalize i3:Rd.codes s.data.toList A.2=I;generalize i4:Rd.hnds s.data.toList I.2=C;generalize i5:Rd.mps s.data.toList j.1 A.1 C.2=k4;have l4:q4.1.length=h.1.toNat:=by rw[<- h2];exact Uq _ _ _
 have b3:=Rd.cn_bd s.data.toList 0 4 K.2 Ck;have b6:=Rd.cn_bd s.data.toList 0 8 g.2 Ck;have b7:=Rd.cn_bd s.data.toList 0 8 j.2 Ck;rw[h1]at b3;rw[h3]at b6;rw[h4]at b7;obtain⟨i6,k5⟩:=b3;obtain⟨i7,i8⟩:=b6;obtain⟨i9,j0⟩:=b7;have j1:=Bc l4;have Q1:=Bc i0;have Q2:=Bc i1;have Q3:=Bc h1;have Q4:=Bc h2;have Q5:=Bc i2;have Q6:=Bc h3;have Q7:=Bc h4;have Q8:=Bc i3;have Q9:=Bc i4;have j2:=Bc i5;have D:w.heap.size+1≠B:=Ck;have F:w.heap.size≠B:=Ck;go_in;go_wp2_with fail;refine(Hp s B t _ m ((hR.alloc _).alloc _)).mono ?_;rw[Ba Q1];rintro e w1 ⟨rfl,j3,b0⟩;have G1:=(((Gr.refl B w).alloc _).alloc _).trans b0;have B1:=b0.own (Bx w _ _) D;have C1:=b0.own (Cb w _ _) F;have S1:=b0.size;simp at S1;have c0:=Bb B1 0;have f0:=Bk B1 0;simp at c0;go_wp2_with fail;refine(Hp s B Q.2 _ m (j3.set Fr _)).mono ?_;rw[Ba Q2];rintro e w2 ⟨rfl,j4,d5⟩;have G2:=(G1.set (.inl Hd) _).trans d5;have B2:=d5.own (Bt (i:=0) B1 (.i Q.1)) D;have C2:=d5.own (Du C1 (p:=.a (w.heap.size+1) 0) Hd (.i Q.1)) F;simp at B2;have S2:=G2.size;have c1:=Bb B2 1;have f1:=Bk B2 1;simp at c1;go_wp2_with fail;refine(Kc s B 0 4 K.2 _ m (j4.set Fr _)).mono ?_;rw[Ba Q3];rintro e w3 ⟨rfl,j5,d6⟩;have G3:=(G2.set (.inl Hd) _).trans d6;have B3:=d6.own (Bt (i:=1) B2 (.i K.1)) D;have C3:=d6.own (Du C2 (p:=.a (w.heap.size+1) 1) Hd (.i K.1)) F;simp at B3;have S3:=G3.size;go_wp2_with fail;refine(Tw s B h.1 h.2 _ m i6 Ck j5).mono ?_;rw[Ba Q4];rintro e w4 ⟨v4,rfl,h5,j6,d7⟩;have G4:=G3.trans d7;have B4:=d7.own B3 D;have C4:=d7.own C3 F;have S4:=G4.size;obtain⟨v,z,rfl⟩:=Bh h5;have c:Cq w4 w.heap.size (.s v h.1.toNat z) q4.1:=by
  unfold Cq;rw[Ba j1];exact D6 h5 Ck
 have c2:=Bb B4 2;have f2:=Bk B4 2;simp at c2;have c:=c.kp (Kp.set (i:=2) B4 (.s v h.1.toNat z)) Fm;go_wp2_with fail;refine(Xu s B q4.2 _ m (j6.set Fr _)).mono ?_;rw[Ba Q5];rintro e w5 ⟨rfl,j7,b1⟩;have G5:=(G4.set (.inl Hd) _).trans b1;have L:=b1.own (Bt (i:=2) B4 (.s v h.1.toNat z)) D;have C5:=b1.own (Du C4 (p:=.a (w.heap.size+1) 2) Hd (.s v h.1.toNat z)) F;simp at L;have S5:=G5.size;have c:=(c).kp (Kp.of_gr (e:=none) b1 G) Fm;have c3:=Bb L 3;have f3:=Bk L 3;simp at c3;have c4:=Bb L 4;have f4:=Bk L 4;simp at c4;have c:=c.kp (Kp.set (i:=3) L (.i g.1.1)) Fm;have c:=c.kp (Kp.set (i:=4) (Bt (i:=3) L (.i g.1.1)) (.i g.1.2)) Fm;go_wp2_with fail;refine(Kc s B 0 8 g.2 _ m ((j7.set Fr _).set Fr _)).mono ?_;rw[Ba Q6];rintro e w6 ⟨rfl,j8,b2⟩;have G6:=((G5.set (.inl Hd) _).set (.inl Hd) _).trans b2;have B6:=b2.own (Bt (i:=4) (Bt (i:=3) L (.i g.1.1)) (.i g.1.2)) D;have C6:=b2.own (Du (Du C5 (p:=.a (w.heap.size+1) 3) Hd (.i g.1.1)) (p:=.a (w.heap.size+1) 4) Hd (.i g.1.2)) F;simp at B6;have S6:=G6.size;have c:=(c).kp (Kp.of_gr (e:=none) b2 G) Fm;have c5:=Bb B6 5;have f5:=Bk B6 5;simp at c5;have c:=c.kp (Kp.set (i:=5) B6 (.i j.1)) Fm;go_wp2_with fail;refine(Kc s B 0 8 j.2 _ m (j8.set Fr _)).mono ?_;rw[Ba Q7];rintro e w7 ⟨rfl,j9,b4⟩;have G7:=(G6.set (.inl Hd) _).trans b4;have B7:=b4.own (Bt (i:=5) B6 (.i j.1)) D;have C7:=b4.own (Du C6 (p:=.a (w.heap.size+1) 5) Hd (.i j.1)) F;simp at B7;have S7:=G7.size;have c:=(c).kp (Kp.of_gr (e:=none) b4 G) Fm;have c6:=Bb B7 6;have f6:=Bk B7 6;simp at c6;have c:=c.kp (Kp.set (i:=6) B7 (.i A.1)) Fm;go_wp2_with fail;refine(Bni s B A.2 _ m (j9.set Fr _)).mono ?_;rw[Ba Q8];rintro e w8 ⟨v8,rfl,h6,k0,b5⟩;have G8:=(G7.set (.inl Hd) _).trans b5;have B8:=b5.own (Bt (i:=6) B7 (.i A.1)) D;have C8:=b5.own (Du C7 (p:=.a (w.heap.size+1) 6) Hd (.i A.1)) F;simp at B8;have S8:=G8.size;obtain⟨V,Y,rfl⟩:=Bh h6;have l:=h6.mono (b':=w.heap.size) Fr;have c:=(c).kp (Kp.of_gr (e:=none) b5 G) Fm;have c7:=Bb B8 7;have f7:=Bk B8 7;simp at c7;have c:=c.kp (Kp.set (i:=7) B8 (.s V I.1.length Y)) Fm;have l:=l.kp (Kp.set (i:=7) B8 (.s V I.1.length Y)) Fm;go_wp2_with fail;refine(Bd0 s B I.2 _ m (k0.set Fr _)).mono ?_;rw[Ba Q9];rintro e w9 ⟨v9,rfl,h7,k1,a5⟩;have G9:=(G8.set (.inl Hd) _).trans a5;have J:=a5.own (Bt (i:=7) B8 (.s V I.1.length Y)) D;have C9:=a5.own (Du C8 (p:=.a (w.heap.size+1) 7) Hd (.s V I.1.length Y)) F;simp at J;have S9:=G9.size;obtain⟨N,O,rfl⟩:=Bh h7;have Z:=h7.mono (b':=w.heap.size) Fr;have c:=(c).kp (Kp.of_gr (e:=none) a5 G) Fm;have l:=(l).kp (Kp.of_gr (e:=none) a5 G) Fm;have c8:=Bb J 8;have f8:=Bk J 8;simp at c8;have c:=c.kp (Kp.set (i:=8) J (.s N C.1.length O)) Fm;have l:=l.kp (Kp.set (i:=8) J (.s N C.1.length O)) Fm;have Z:=Z.kp (Kp.set (i:=8) J (.s N C.1.length O)) Fm;have c5:=Bb J 5;have c6:=Bb J 6;simp at c5 c6;go_wp2_with fail;refine(Bmw s B j.1 A.1 C.2 _ m i7 i8 i9 j0 (k1.set Fr _)).mono ?_;rw[Ba j2];rintro e k6 ⟨k7,a6,rfl,k2,h8,k3,a0⟩;have h9:=(G9.set (.inl Hd) _).trans a0;have a7:=a0.own (Bt (i:=8) J (.s N C.1.length O)) D;have f:=a0.own (Du C9 (p:=.a (w.heap.size+1) 8) Hd (.s N C.1.length O)) F;simp at a7;have k8:=h9.size;obtain⟨b8,b9,rfl⟩:=Bh h8.1;have h0:=h8.mono (b':=w.heap.size) Fr;have c:=(c).kp (Kp.of_gr (e:=none) a0 G) Fm;have l:=(l).kp (Kp.of_gr (e:=none) a0 G) Fm;have Z:=(Z).kp (Kp.of_gr (e:=none) a0 G) Fm;have c9:=Bb a7 9;have f9:=Bk a7 9;simp at c9;obtain⟨c0,c1,c2,c3,c4,c5,c6,c7,c8⟩:=cl9 a7;simp at c0 c1 c2 c3 c4 c5 c6 c7 c8;have z0:=Bb f 0;have g0:=Bk f 0;have z1:=Bb f 1;have g1:=Bk f 1;have z2:=Bb f 2;have g2:=Bk f 2;have z3:=Bb f 3;have g3:=Bk f 3;have z4:=Bb f 4;have g4:=Bk f 4;have z5:=Bb f 5;have g5:=Bk f 5;have z6:=Bb f 6;have g6:=Bk f 6;have z7:=Bb f 7;have g7:=Bk f 7;have z8:=Bb f 8;have g8:=Bk f 8;have z9:=Bb f 9;have g9:=Bk f 9;simp at z0 z1 z2 z3 z4 z5 z6 z7 z8 z9;have d0:=Kp.set (b:=w.heap.size) (i:=9) a7 (.s b8 a6.length b9);have c:=c.kp d0 Fm;have l:=l.kp d0 Fm;have Z:=Z.kp d0 Fm;have h0:=h0.kp d0 Fm Fm;go_wp2_with fail;refine tb (.agg #[.i Q.1,.i K.1,.s v h.1.toNat z,.i g.1.1,.i g.1.2,.i j.1,.i A.1,.s V I.1.length Y,.s N C.1.length O,.s b8 a6.length b9]) (by simp[results,results157,go_sem,z0,z1,z2,z3,z4,z5,z6,z7,z8,z9]) ?_;refine⟨_,_,_,_,_,_,_,_,_,_,_,_,rfl,?_,?_,?_⟩;have E0:=(Du f (p:=.a (w.heap.size+1) 9) Hd (.s b8 a6.length b9));have F0:=Kp.set (b:=w.heap.size) (i:=0) E0 (.i Q.1);have E1:=Bt (i:=0) E0 (.i Q.1);have F1:=F0.trans (Kp.set (b:=w.heap.size) (i:=1) E1 (.i K.1));have E2:=Bt (i:=1) E1 (.i K.1);have F2:=F1.trans (Kp.set (b:=w.heap.size) (i:=2) E2 (.s v h.1.toNat z));have E3:=Bt (i:=2) E2 (.s v h.1.toNat z);have F3:=F2.trans (Kp.set (b:=w.heap.size) (i:=3) E3 (.i g.1.1));have E4:=Bt (i:=3) E3 (.i g.1.1);have F4:=F3.trans (Kp.set (b:=w.heap.size) (i:=4) E4 (.i g.1.2));have E5:=Bt (i:=4) E4 (.i g.1.2);have F5:=F4.trans (Kp.set (b:=w.heap.size) (i:=5) E5 (.i j.1));have E6:=Bt (i:=5) E5 (.i j.1);have F6:=F5.trans (Kp.set (b:=w.heap.size) (i:=6) E6 (.i A.1));have E7:=Bt (i:=6) E6 (.i A.1);have F7:=F6.trans (Kp.set (b:=w.heap.size) (i:=7) E7 (.s V I.1.length Y));have E8:=Bt (i:=7) E7 (.s V I.1.length Y);have F8:=F7.trans (Kp.set (b:=w.heap.size) (i:=8) E8 (.s N C.1.length O));have E9:=Bt (i:=8) E8 (.s N C.1.length O);have F9:=F8.trans (Kp.set (b:=w.heap.size) (i:=9) E9 (.s b8 a6.length b9))
 ·exact⟨c.kp F9 Fm,l.kp F9 Fm,Z.kp F9 Fm,a6,k2,h0.kp F9 Fm Fm⟩
 ·exact(((((((((((k3.set Fr _).set Fr _).set Fr _).set Fr _).set Fr _).set Fr _).set Fr _).set Fr _).set Fr _).set Fr _).set Fr _)
 exact(((((((((((h9.set (.inl Hd) _).set (.inl Hd) _).set (.inl Hd) _).set (.inl Hd) _).set (.inl Hd) _).set (.inl Hd) _).set (.inl Hd) _).set (.inl Hd) _).set (.inl Hd) _).set (.inl Hd) _).set (.inl Hd) _)
def Tryz.infoClass:(prog.info? 139).map (fun i=>(i.zero,i.size,i.bytes))=some (some (.agg #[.i 0,.s none 0 0]),2,32):=Lt
def Tryz.infoMethod:(prog.info? 133).map (fun i=>(i.zero,i.size,i.bytes))=some (some (.agg #[.i 0,.i 0,.s none 0 0,.i 0,.i 0,.i 0,.i 0,.s none 0 0,.s none 0 0,.s none 0 0]),10,144):=Lt
def Yw(s:ByteArray)(B:Nat)(t:Rd.St)(w:TW)(hs:s.size<=maxLen)(hR:Eg w B s t):Calls prog 104 #[.q B 0] w fun e w' => ∃a1 K c1 a2 n2 c2 l1 l2,e=.r (.agg #[.s a1 K c1,.s a2 n2 c2])/\l1.map Prod.fst=(Rd.fil s.data.toList t).1.classes/\Fh w' w.heap.size (.s a1 K c1) l1/\l2.map Prod.fst=(Rd.fil s.data.toList t).1.methods/\Eb w' w.heap.size (.s a2 n2 c2) l2/\Eg w' B s (Rd.fil s.data.toList t).2/\Gr B w w':=by
 have a8:=hR.lt;obtain⟨i0,hi,f4,f5,f6⟩:=Bsa Tryz.infoClass;obtain⟨j0,hj,f7,f8,f9⟩:=Bsa Tryz.infoMethod;unfold Rd.fil;dsimp only;generalize d6:Rd.ex s.data.toList 83 t=q1;generalize d7:Rd.ex s.data.toList 77 q1=q2;generalize b8:Rd.cn s.data.toList 0 6 q2=C;generalize d8:Rd.rep (Rd.cls s.data.toList) C.1.toNat C.2=q4;generalize b9:Rd.cn s.data.toList 1 6 q4.2=q5;have b3:=Rd.cn_bd s.data.toList 0 6 q2 Ck;rw[b8]at b3;obtain⟨g9,h0⟩:=b3;have b5:=Rd.cn_bd s.data.toList 1 6 q4.2 Ck;rw[b9]at b5;obtain⟨h1,h2⟩:=b5;have Q4:=Bc d8;have Q5:=Bc b9;have Q1:=Bc d6;have Q2:=Bc d7;have Q3:=Bc b8;clear d6 d7 b8 d8 b9;have K:w.heap.size+1≠B:=Ck;have n0:w.heap.size≠B:=Ck;go_in;go_wp2_with fail;refine(Ae s B 83 t _ hs ((hR.alloc _).alloc _)).mono ?_;rw[Ba Q1];rintro e w1 ⟨rfl,d9,b2⟩;have G1:=(((Gr.refl B w).alloc _).alloc _).trans b2;have B1:=b2.own (Bx w _ _) K;have C1:=b2.own (Cb w _ _) n0;go_wp2_with fail;refine(Ae s B 77 q1 _ hs d9).mono ?_;rw[Ba Q2];rintro e w2 ⟨rfl,f2,b4⟩;have G2:=G1.trans b4;have B2:=b4.own B1 K;have C2:=b4.own C1 n0;go_wp2_with fail;refine(Kc s B 0 6 q2 _ hs f2).mono ?_;rw[Ba Q3];rintro e w3 ⟨rfl,f3,b6⟩;have G3:=G2.trans b6;have B3:=b6.own B2 K;have C3:=b6.own C2 n0;clear G1 G2 B1 B2 C1 C2 b2 b4 b6 d9 f2;go_wp2
 go_loopw [5] (fun i wr=>∃(k:Nat) (l:List (Rd.Cls×Value)) (v:TX),(k:Int)<=C.1/\i=.i k/\l.length=k/\l.map Prod.fst=(Rd.rep (Rd.cls s.data.toList) k C.2).1/\Fh wr w.heap.size v l /\
   wr.heap[w.heap.size+1]?=some (.cells #[v,.s none 0 0] 84 (0,0))/\wr.heap[w.heap.size]?=some (O1 none 0 0 none 0 0) /\
   Eg wr B s (Rd.rep (Rd.cls s.data.toList) k C.2).2/\Gr B w wr)
  (fun i _=>C.1.toNat-(intOf i).toNat)
 case atStart=>exact⟨0,[],_,Ck,rfl,rfl,rfl,⟨Brw _ _ _ _,Hd⟩,B3,C3,f3,G3⟩
 case round=>
  obtain⟨k,l,v,hk,rfl,a5,L,D,hB,g,N,F⟩:=hrel;have b7:=F.size;by_cases g2:(k:Int)<C.1
  ·generalize c:Rd.rep (Rd.cls s.data.toList) k C.2=p at *;generalize hq:Rd.cls s.data.toList p.2=q;have HP:=Bc c;have HQ:=Bc hq;have a6:=Bc a5;have c0:=Bc L;clear c hq a5 L;go_wp2_with fail;refine(Bk1 s B p.2 _ hs N).mono ?_;rw[Ba HQ];rintro e w4 ⟨u,rfl,G,a0,f⟩;obtain⟨ua,uc,rfl⟩:=Bh G;have h:=f.own hB K;have a9:=f.own g n0;have I:=F.trans f;have g3:=I.size;obtain⟨va,vc,rfl⟩:=Bh D.1;have O:=D.kp (Kp.of_gr (e:=none) f a8) Fm Fm;have b0:=G.mono b7;have x0:=Bb h 0;have f0:=Bk h 0;have g4:=Sp h;have g5:=Bc O.2;have j:=O.1;simp at x0;clear G D O;go_wp2_with (at_builtin;refine Br3 _ rfl _ _ 81 rfl w.heap.size 139 i0 _ 2 32 underlying81 hi f4 f5 f6 rfl Fm _ _ _ rfl ((j.alloc _).alloc _) ⟨w4.heap.size+1,0,none⟩ 1 1 [.i q.1.above,.s ua q.1.fields.length uc] rfl rfl ?c1 ?c2 ?c3 ?c4 ?c5 ?_)
   case c1=>exact Dh _ _ _ _ Hd
   case c2=>intro u hu;simp at hu;rcases hu with rfl|rfl<;>rfl
   case c3=>have:=Ba a6;unfold maxLen;omega
   case c4=>have:=Ba a6;omega
   case c5=>simp;omega
   intro v' w5 a7 Q _;obtain⟨z,A,rfl⟩:=Bh a7;have c6:=((a0.alloc _).alloc _).grown Q (Uu j a8);have c7:=((I.alloc _).alloc _).grown Q (Uv j);have J:=((Kp.alloc (e:=some 139) (b:=0) _ _).trans (Kp.alloc _ _)).trans (Kp.of_grown Q ((j.alloc _).alloc _));have V:=J _ _ _ (Bsb _) h Fm;have c8:=J _ _ _ (Bsb _) a9 Fm;have x1:=Bb V 0;have f1:=Bk V 0;simp at x1;have Y:Kp (some 139) w.heap.size w4 w5:=fun k cs t _ hc G=>J k cs t (Bsb _) hc G;have c9:Fh (w5.setCell (.a (w.heap.size+1) 0) (.s z (l.length+1) A)) w.heap.size (.s z (l.length+1) A) (l++[(q.1,.s ua q.1.fields.length uc)]):=by
    have Z:=Kp.set (b:=w.heap.size) (i:=0) V (.s z (l.length+1) A);refine⟨?_,?_⟩
    ·rw[Yf,Ws];exact Dc a7 Z Fm
    intro p c;rw[Bs1]at c;rcases c with c|c
    ·exact((Ba g5 p c).kp Y Fm).kp Z Fm
    simp only[Bth]at c;subst c;exact(b0.kp Y Fm).kp Z Fm
   have e1:(Rd.rep (Rd.cls s.data.toList) (k+1) C.2)=(p.1++[q.1],q.2):=by simp only[Rd.rep,Ba HP,Ba HQ]
   have HE:=Bc e1;have HB:=Bt (i:=0) V (.s z (l.length+1) A);have HC:=Du c8 (p:=.a (w.heap.size+1) 0) Hd (.s z (l.length+1) A);have HK:=Bc J;have h3:=Bc Y;clear e1 Q j a7 N a0 f I F x0 f0 J Y b0 hB g h a9;go_wp2;go_roundw
   case rel=>exact⟨k+1,_,_,Ck,Mg,by rw[Ws,Ba a6];rfl,by rw[Ba HE,Bse,Ba c0];rfl,c9,HB,HC,by rw[Ba HE];exact c6.set Fr _,c7.set (.inl Hd) _⟩
   case measure=>simp[intOf];omega
  have e:k=C.1.toNat:=Ck;subst e;clear f3 G3 B3 C3;rw[Ba Q4]at L N;have c0:=Bc L;clear L a5;obtain⟨va,vc,rfl⟩:=Bh D.1;go_wp2_with fail;refine(Kc s B 1 6 q4.2 _ hs N).mono ?_;rw[Ba Q5];rintro e w4 ⟨rfl,a0,f⟩;have I:=F.trans f;have B4:=f.own hB K;have C4:=f.own g n0;have O:=D.kp (Kp.of_gr (e:=none) f a8) Fm Fm;clear hB g D F f N hk b7;go_wp2
  go_loopw [8] (fun i wr=>∃(k:Nat) (m:List (Rd.Mth×Ex)) (v:TX),(k:Int)<=q5.1/\i=.i k/\m.length=k/\m.map Prod.fst=(Rd.rep (Rd.mth s.data.toList) k q5.2).1/\Eb wr w.heap.size v m /\
    Fh wr w.heap.size (.s va l.length vc) l /\
    wr.heap[w.heap.size+1]?=some (.cells #[.s va l.length vc,v] 84 (0,0))/\wr.heap[w.heap.size]?=some (O1 none 0 0 none 0 0) /\
    Eg wr B s (Rd.rep (Rd.mth s.data.toList) k q5.2).2/\Gr B w wr)
   (fun i _=>q5.1.toNat-(intOf i).toNat)
  case atStart=>exact⟨0,[],_,Ck,rfl,rfl,rfl,⟨Brw _ _ _ _,Hd⟩,O,B4,C4,a0,I⟩
  case round=>
   clear O B4 C4 a0 I;obtain⟨k,m,v,hk,rfl,a5,L,b1,D,hB,g,N,F⟩:=hrel;have b7:=F.size;by_cases g2:(k:Int)<q5.1
   ·generalize c:Rd.rep (Rd.mth s.data.toList) k q5.2=p at *;generalize hq:Rd.mth s.data.toList p.2=q;have HP:=Bc c;have HQ:=Bc hq;have a6:=Bc a5;have g6:=Bc L;clear c hq a5 L;obtain⟨vb,vd,rfl⟩:=Bh b1.1;go_wp2_with fail;refine(Bhg s B p.2 _ hs N).mono ?_;rw[Ba HQ];rintro e w4 ⟨a1,m1,d1,a2,m2,d2,a3,m3,d3,a4,m4,d4,rfl,G,a0,f⟩;have h:=f.own hB K;have a9:=f.own g n0;have I:=F.trans f;have g3:=I.size;have d0:=b1.kp (Kp.of_gr (e:=none) f a8) Fm Fm Fm Fm Fm;have O:=D.kp (Kp.of_gr (e:=none) f a8) Fm Fm;have b0:=G.mono b7;have x0:=Bb h 1;have f0:=Bk h 1;have g4:=Sp h;have g7:=Bc d0.2;have j:=d0.1;simp at x0;clear G b1 d0 D;go_wp2_with (at_builtin;refine Br3 _ rfl _ _ 82 rfl w.heap.size 133 j0 _ 10 144 underlying82 hj f7 f8 f9 rfl Fm _ _ _ rfl ((j.alloc _).alloc _) ⟨w4.heap.size+1,0,none⟩ 1 1 (Mb q.1 ⟨.s a1 m1 d1,.s a2 m2 d2,.s a3 m3 d3,.s a4 m4 d4⟩) rfl rfl ?d1 ?d2 ?d3 ?d4 ?d5 ?_)
    case d1=>exact Dh _ _ _ _ Hd
    case d2=>intro u hu;simp[Mb]at hu;rcases hu with rfl|rfl|rfl|rfl|rfl|rfl|rfl|rfl|rfl|rfl<;>rfl
    case d3=>have:=Ba a6;unfold maxLen;omega
    case d4=>have:=Ba a6;omega
    case d5=>simp;omega
    intro v' w5 a7 Q _;obtain⟨z,A,rfl⟩:=Bh a7;have c6:=((a0.alloc _).alloc _).grown Q (Uu j a8);have c7:=((I.alloc _).alloc _).grown Q (Uv j);have J:=((Kp.alloc (e:=some 133) (b:=0) _ _).trans (Kp.alloc _ _)).trans (Kp.of_grown Q ((j.alloc _).alloc _));have V:=J _ _ _ (Bsb _) h Fm;have c8:=J _ _ _ (Bsb _) a9 Fm;have x1:=Bb V 1;have f1:=Bk V 1;simp at x1;have Y:Kp (some 133) w.heap.size w4 w5:=fun k cs t _ hc G=>J k cs t (Bsb _) hc G;have Z:=Kp.set (b:=w.heap.size) (i:=1) V (.s z (m.length+1) A);have g8:Eb (w5.setCell (.a (w.heap.size+1) 1) (.s z (m.length+1) A)) w.heap.size (.s z (m.length+1) A) (m++[(q.1,⟨.s a1 m1 d1,.s a2 m2 d2,.s a3 m3 d3,.s a4 m4 d4⟩)]):=by
     refine⟨?_,?_⟩
     ·rw[Bdh,Ws];exact Dc a7 Z Fm
     intro p c;rw[Bs1]at c;rcases c with c|c
     ·exact((Ba g7 p c).kp Y Fm Fm Fm Fm).kp Z Fm Fm Fm Fm
     simp only[Bth]at c;subst c;exact(b0.kp Y Fm Fm Fm Fm).kp Z Fm Fm Fm Fm
    have c9:=(O.kp Y Fm Fm).kp Z Fm Fm;have e1:(Rd.rep (Rd.mth s.data.toList) (k+1) q5.2)=(p.1++[q.1],q.2):=by simp only[Rd.rep,Ba HP,Ba HQ]
    have HE:=Bc e1;have HB:=Bt (i:=1) V (.s z (m.length+1) A);have HC:=Du c8 (p:=.a (w.heap.size+1) 1) Hd (.s z (m.length+1) A);clear e1 Q j a7 N a0 f I F x0 f0 J Y b0 hB g h a9 Z O;go_wp2;go_roundw
    case rel=>exact⟨k+1,_,_,Ck,Mg,by rw[Ws,Ba a6];rfl,by rw[Ba HE,Bse,Ba g6];rfl,g8,c9,HB,HC,by rw[Ba HE];exact c6.set Fr _,c7.set (.inl Hd) _⟩
    case measure=>simp[intOf];omega
   have e:k=q5.1.toNat:=Ck;subst e;obtain⟨vb,vd,rfl⟩:=Bh b1.1;clear a5;obtain⟨x0,x1⟩:=cl2 hB;obtain⟨y0,y1⟩:=cl2 g;obtain⟨g0,g1⟩:=fr2 g;simp at x0 x1 y0 y1;go_wp2_with fail;refine tb (.agg #[.s va l.length vc,.s vb m.length vd]) (by simp[results,results104,go_sem,y0,y1]) ?_;have k1:=(Kp.set (b:=w.heap.size) (i:=0) g (.s va l.length vc)).trans (Kp.set (i:=1) (Bt (i:=0) g (.s va l.length vc)) (.s vb m.length vd));refine⟨_,_,_,_,_,_,rfl,l,Ba c0,D.kp k1 Fm Fm,m,L,b1.kp k1 Fm Fm Fm Fm Fm,?_,?_⟩
   ·exact(N.set Fr _).set Fr _
   exact(F.set (.inl Hd) _).set (.inl Hd) _
def Rd.read(s:TB):Rd.Fil × Int :=
 if 15000<s.length then (⟨[],[]⟩,1)
 else if (Rd.fil s ⟨0,false⟩).2.bad=true\/(Rd.fil s ⟨0,false⟩).2.pos≠s.length then (⟨[],[]⟩,2)
 else ((Rd.fil s ⟨0,false⟩).1,0)
def Bmb(s:ByteArray)(w:TW)(L:s.size<=maxLen):Calls prog 67 #[.string s] w fun e g => ∃h j l m p t,e=.r (.tuple #[.agg #[.s h j l,.s m p t],.i (Rd.read s.data.toList).2])/\Bli g w.heap.size (.s h j l) (Rd.read s.data.toList).1.classes/\Blg g w.heap.size (.s m p t) (Rd.read s.data.toList).1.methods/\Bl w g:=by
 have a9:s.data.toList.length=s.size:=Hd;unfold Rd.read;rw[a9];have b0:∀g:TW,Bli g w.heap.size (.s none 0 0) []:=fun g=>⟨[],rfl,Brw _ _ _ _,Hd⟩;have b1:∀g:TW,Blg g w.heap.size (.s none 0 0) []:=fun g=>⟨[],rfl,Brw _ _ _ _,Hd⟩;have N:=Bc b0;have O:=Bc b1;by_cases h1:15000<s.size;·rw[Th h1];have b2:(15000:Int)<(s.size:Int):=Ck;go_in;go_wp2;refine tb (.tuple #[.agg #[.s none 0 0,.s none 0 0],.i 1]) (by simp[results,Bvo,go_sem]) ?_;exact⟨none,0,0,none,0,0,rfl,Ba N _,Ba O _,QN _⟩
 rw[Pk h1];generalize hq:Rd.fil s.data.toList ⟨0,false⟩=q;have Q:=Bc hq;have b2:¬(15000:Int)<(s.size:Int):=Ck;have V:Eg ((w.alloc (O1 none 0 0 none 0 0)).alloc (O0 s 0 false)) (w.heap.size+1) s ⟨0,false⟩:=Bx w _ _;cases a7:q.2.bad with
 | true =>
  rw[Th (.inl rfl)];have K:=Bc a7;go_in;go_wp2_with fail;refine(Yw s (w.heap.size+1) ⟨0,false⟩ _ L V).mono ?_;rw[Ba Q];rintro e B ⟨h,j,l,m,p,t,Y,Z,rfl,C,a0,D,a3,v,f⟩;have c:=f.own (Cb w _ _) Ck;obtain⟨x0,x1,F,f0,f1,f2⟩:=v.cells;rw[Ba K]at F;obtain⟨z,A⟩:=cl2 c;obtain⟨g0,g1⟩:=fr2 c;simp at z A;have G:=f.size;simp at G;have I:=Sp c;have a8:=v.lt;have J:Bl w B:=((((Gr.refl (w.heap.size+1) w).alloc _).alloc _).trans f).below Ck;have a4:=Bc C;have a5:=Bc D;go_wp2_with fail;refine tb (.tuple #[.agg #[.s none 0 0,.s none 0 0],.i 2]) (by simp[results,Bvo,go_sem,z,A,I]) ?_;exact⟨none,0,0,none,0,0,rfl,Ba N _,Ba O _,((J.setCell Hd _).setCell Hd _).alloc Fr _⟩
 | false =>
  have K:=Bc a7;by_cases a6:q.2.pos=s.size
  ·rw[Pk (by simp[a6])];have b3:((q.2.pos:Int) != (s.size:Int))=false:=by simp[a6]
   go_in;go_wp2_with fail;refine(Yw s (w.heap.size+1) ⟨0,false⟩ _ L V).mono ?_;rw[Ba Q];rintro e B ⟨h,j,l,m,p,t,Y,Z,rfl,C,a0,D,a3,v,f⟩;have c:=f.own (Cb w _ _) Ck;obtain⟨x0,x1,F,f0,f1,f2⟩:=v.cells;rw[Ba K]at F;obtain⟨z,A⟩:=cl2 c;obtain⟨g0,g1⟩:=fr2 c;simp at z A;have G:=f.size;simp at G;have I:=Sp c;have a8:=v.lt;have J:Bl w B:=((((Gr.refl (w.heap.size+1) w).alloc _).alloc _).trans f).below Ck;have a4:=Bc C;have a5:=Bc D;go_wp2_with fail;refine tb (.tuple #[.agg #[.s h j l,.s m p t],.i 0]) (by simp[results,Bvo,go_sem,z,A,I]) ?_;have k1:=((Kp.set (b:=w.heap.size) (i:=0) c (.s h j l)).trans (Kp.set (i:=1) (Bt (i:=0) c (.s h j l)) (.s m p t))).trans (Kp.alloc _ (O1 h j l m p t));refine⟨_,_,_,_,_,_,rfl,⟨Y,Ba a4,?_⟩,⟨Z,Ba a5,?_⟩,((J.setCell Hd _).setCell Hd _).alloc Fr _⟩
   ·exact(a0.mono Fr).kp k1 Fm Fm
   exact(a3.mono Fr).kp k1 Fm Fm Fm Fm Fm
  rw[Th (.inr a6)];have b3:((q.2.pos:Int) != (s.size:Int))=true:=Fr;go_in;go_wp2_with fail;refine(Yw s (w.heap.size+1) ⟨0,false⟩ _ L V).mono ?_;rw[Ba Q];rintro e B ⟨h,j,l,m,p,t,Y,Z,rfl,C,a0,D,a3,v,f⟩;have c:=f.own (Cb w _ _) Ck;obtain⟨x0,x1,F,f0,f1,f2⟩:=v.cells;rw[Ba K]at F;obtain⟨z,A⟩:=cl2 c;obtain⟨g0,g1⟩:=fr2 c;simp at z A;have G:=f.size;simp at G;have I:=Sp c;have a8:=v.lt;have J:Bl w B:=((((Gr.refl (w.heap.size+1) w).alloc _).alloc _).trans f).below Ck;have a4:=Bc C;have a5:=Bc D;go_wp2_with fail;refine tb (.tuple #[.agg #[.s none 0 0,.s none 0 0],.i 2]) (by simp[results,Bvo,go_sem,z,A,I]) ?_;exact⟨none,0,0,none,0,0,rfl,Ba N _,Ba O _,((J.setCell Hd _).setCell Hd _).alloc Fr _⟩
namespace Tr
def ov (l:TI)(c:Int):Int:=if c<0 then -1 else if (l.length:Int)<=c then -1 else l.getD c.toNat 0
def upTo (l:TI)(high:Int):Nat->Int->Bool
 | 0,_=>false
 | n+1,pos=>if pos = -1 then false else if pos=high then true else upTo l high n (ov l pos)
def below(l:TI)(low high:Int):Bool:=upTo l high l.length (ov l low)
def hasB (l:TI)(c:Int):Bool:=decide (0<=c)&&decide (c<(l.length:Int))
def plainB(l:TI)(k n:Int):Bool:=if k=1 then n==0 else if k=3 then hasB l n else false
def settledB(l:TI)(k n:Int):Bool:=if k=0\/k=2 then n==0 else plainB l k n
def fitsB(l:TI)(k n k' n':Int):Bool :=
 if k=k'/\n=n' then true else if k'=0 then true else if k' ≠ 3 then false else if k=2 then true else if k=3 then below l n n' else false
def allPlainB(l:TI)(fs:TP):Bool:=fs.all fun f=>plainB l f.1 f.2
end Tr
variable {ya:Option Addr}{yn yc:Nat}
def Dy (w:TW)(g:Nat)(l:TI):Prop:=g<w.heap.size/\∀i,i<l.length->w.cell? ⟨g,i,none⟩=some (.int .i64 (l.getD i 0))
def Dy.below{w s:TW}{u:Nat}{z:TI}(h:Dy w u z)(b:Bl w s):Dy s u z :=
 ⟨Brs h.1 b.size,fun i c=>by rw[b.cell (p:=.a u i) h.1];exact h.2 i c⟩
def Dy.alloc{w:TW}{u:Nat}{z:TI}(h:Dy w u z)(o:Obj):Dy (w.alloc o) u z:=h.below (QN _)
def Bda(l:TI)(g b:Nat)(c:Int)(w:TW)(f:Dy w g l):Calls prog 225 #[.agg #[.s (.p g) l.length b,.s ya yn yc],.i c] w fun e m=>e=.r (.i (Tr.ov l c))/\Bl w m:=by
 unfold Tr.ov;by_cases h:c<0;·rw[Th h];go_in;go_wp2;go_ret;exact⟨rfl,QN _⟩
 rw[Pk h];by_cases j:(l.length:Int)<=c;·rw[Th j];go_in;go_wp2;go_ret;exact⟨rfl,QN _⟩
 rw[Pk j];obtain⟨i,rfl⟩:=Brp (show 0<=c by omega);have q:i<l.length:=Ck;have t:=(f.alloc (O2 (.p g) l.length b ya yn yc)).2 i q;have v:=f.1;go_in;go_wp2;go_ret;exact⟨rfl,QN _⟩
def A8(l:TI)(a:TA)(b:Nat)(c:Int)(w:TW):Calls prog 212 #[.agg #[.s a l.length b,.s ya yn yc],.i c] w fun e f=>e=.r (.bool (Tr.hasB l c))/\Bl w f:=by
 unfold Tr.hasB;by_cases g:0<=c;·go_in;go_wp2;go_ret;exact⟨by simp[g],QN _⟩
 go_in;go_wp2;go_ret;exact⟨Fr,QN _⟩
def Biz{z:TI}{c B:Int}{n:Nat}(b:B ≠ -1)(e:B≠c):Tr.upTo z c (n+1) B=Tr.upTo z c n (Tr.ov z B):=by
 simp[Tr.upTo,b,e]
def Blw{z:TI}{c B:Int}{n:Nat}(b:B ≠ -1)(e:B=c):Tr.upTo z c (n+1) B=true:=by
 subst e;simp[Tr.upTo,b]
def Blt{z:TI}{c B:Int}{n:Nat}(b:B = -1):Tr.upTo z c n B=false:=by
 cases n<;>simp[Tr.upTo,b]
def W2(l:TI)(g b:Nat)(z c:Int)(w:TW)(hl:l.length<=1000)(A:Dy w g l):Calls prog 171 #[.agg #[.s (.p g) l.length b,.s ya yn yc],.i z,.i c] w fun e I=>e=.r (.bool (Tr.below l z c))/\Bl w I:=by
 unfold Tr.below;generalize J:Tr.upTo l c l.length (Tr.ov l z)=r;have j:=Bc J;have hg:=A.1;have K:=A.alloc (O2 (.p g) l.length b ya yn yc);have L:Bl w (w.alloc (O2 (.p g) l.length b ya yn yc)):=QN _;have N:=Be w (O2 (.p g) l.length b ya yn yc);go_in;go_wp2_with fail;refine Qm (Bda l g b z _ K) ?_;intro C D;have O:Bl w C:=L.trans (D.mono Hd);have Q:C.heap[w.heap.size]?=some (O2 (.p g) l.length b ya yn yc):=(D.block _ Hd).trans N;go_wp2
 go_loopw [7,8] (fun p i wr=>∃(k:Nat) (q:Int),k<=l.length/\i=.i k/\p=.i q/\Hid (Tr.upTo l c (l.length-k) q=r)/\Bl w wr /\
   wr.heap[w.heap.size]?=some (O2 (.p g) l.length b ya yn yc))
  (fun _ i _=>l.length-(intOf i).toNat)
 case atStart=>exact⟨0,_,Ck,rfl,rfl,j,O,Q⟩
 case round=>
  obtain⟨k,q,hk,rfl,rfl,j,t,B⟩:=hrel;obtain⟨V,Y⟩:=cl2 B;simp at V Y;by_cases a4:k<l.length
  ·by_cases f:q = -1
   ·have Z:(q != -1)=false:=by simp[f]
    have v:r=false:=by rw[<- Ba j];exact Blt f
    have h:=Bc v;have F:=Bc f;go_wp2;go_ret;exact⟨by rw[Ba h];rfl,t⟩
   have Z:(q != -1)=true:=by simp[f]
   by_cases m:q=c
   ·have a0:(q==c)=true:=by simp[m]
    have v:r=true:=by rw[<- Ba j,show l.length-k=(l.length-k-1)+1 by omega];exact Blw f m
    have h:=Bc v;have F:=Bc f;have H2:=Bc m;go_wp2;go_ret;exact⟨by rw[Ba h];rfl,t⟩
   have a0:(q==c)=false:=by simp[m]
   have h:Hid (Tr.upTo l c (l.length-(k+1)) (Tr.ov l q)=r):=by
    unfold Hid;rw[<- Ba j,show l.length-k=(l.length-(k+1))+1 by omega,Biz f m]
   have F:=Bc f;have H2:=Bc m;have a1:=A.below t;go_wp2_with fail;refine Qm (Bda l g b q _ a1) ?_;intro w2 G;have a2:Bl w w2:=QB t G;have a3:=(G.block _ (Sp B)).trans B;go_wp2;go_roundw
   case rel=>exact⟨k+1,_,Ck,Mg,rfl,h,a2,a3⟩
   case measure=>simp[intOf];omega
  have v:r=false:=by rw[<- Ba j,show l.length-k=0 by omega];rfl
  have h:=Bc v;go_wp2;go_ret;exact⟨by rw[Ba h];rfl,t⟩
variable {ya:Option Addr}{yn yc:Nat}
def Bu(w:TW)(o b:Obj):Bl w ((w.alloc o).alloc b):=(QN _).alloc Hd _
def Em(w:TW)(o b c:Obj):Bl w (((w.alloc o).alloc b).alloc c):=((QN _).alloc Hd _).alloc Fr _
def Rq(l:TI)(a:TA)(f:Nat)(k n:Int)(w:TW):Calls prog 210 #[.agg #[.s a l.length f,.s ya yn yc],.agg #[.i k,.i n]] w fun e g=>e=.r (.bool (Tr.plainB l k n))/\Bl w g:=by
 unfold Tr.plainB;by_cases b:k=1
 ·rw[Th b];have h:(k==1)=true:=by simp[b]
  go_in;go_wp2;go_ret;exact⟨rfl,Bu _ _ _⟩
 rw[Pk b];have h:(k==1)=false:=by simp[b]
 by_cases c:k=3
 ·rw[Th c];have j:(k==3)=true:=by simp[c]
  go_in;go_wp2_with fail;refine Qm (A8 l a f n _) ?_;intro p m;go_wp2;go_ret;exact⟨rfl,(Bu _ _ _).trans (m.mono Fr)⟩
 rw[Pk c];have j:(k==3)=false:=by simp[c]
 go_in;go_wp2;go_ret;exact⟨rfl,Bu _ _ _⟩
def Bcc(l:TI)(a:TA)(f:Nat)(k n:Int)(w:TW):Calls prog 224 #[.agg #[.s a l.length f,.s ya yn yc],.agg #[.i k,.i n]] w fun e h=>e=.r (.bool (Tr.settledB l k n))/\Bl w h:=by
 unfold Tr.settledB;by_cases b:k=0
 ·rw[Th (.inl b)];have g:(k==0)=true:=by simp[b]
  go_in;go_wp2;go_ret;exact⟨rfl,Bu _ _ _⟩
 by_cases c:k=2
 ·rw[Th (.inr c)];have g:(k==0)=false:=by simp[b]
  have j:(k==2)=true:=by simp[c]
  go_in;go_wp2;go_ret;exact⟨rfl,Bu _ _ _⟩
 rw[Pk Ck];have g:(k==0)=false:=by simp[b]
 have j:(k==2)=false:=by simp[c]
 go_in;go_wp2_with fail;refine Qm (Rq l a f k n _) ?_;intro p m;go_wp2;go_ret;exact⟨rfl,(Bu _ _ _).trans (m.mono Fr)⟩
def Bam(l:TI)(g z:Nat)(k n b h:Int)(w:TW)(A:l.length<=1000)(B:Dy w g l):Calls prog 118 #[.agg #[.s (.p g) l.length z,.s ya yn yc],.agg #[.i k,.i n],.agg #[.i b,.i h]] w fun e C=>e=.r (.bool (Tr.fitsB l k n b h))/\Bl w C:=by
 unfold Tr.fitsB;by_cases c:k=b/\n=h;·rw[Th c];obtain⟨rfl,rfl⟩:=c;go_in;go_wp2;go_ret;exact⟨rfl,Em _ _ _ _⟩
 rw[Pk c];by_cases j:b=0
 ·rw[Th j];subst j;by_cases v:k=0;·subst v;have f:¬n=h:=fun f=>c ⟨rfl,f⟩;go_in;go_wp2;go_ret;exact⟨rfl,Em _ _ _ _⟩
  clear c;go_in;go_wp2;go_ret;exact⟨rfl,Em _ _ _ _⟩
 rw[Pk j];by_cases m:b=3
 ·rw[Pk Ck];subst m;by_cases q:k=2;·rw[Th q];subst q;go_in;go_wp2;go_ret;exact⟨rfl,Em _ _ _ _⟩
  rw[Pk q];by_cases t:k=3;·rw[Th t];subst t;have f:¬n=h:=fun f=>c ⟨rfl,f⟩;go_in;go_wp2_with fail;refine Qm (W2 l g z n h _ A (B.below (Em _ _ _ _))) ?_;intro F D;go_wp2;go_ret;exact⟨rfl,(Em _ _ _ _).trans (D.mono Fr)⟩
  rw[Pk t];have G:(k==2)=false:=by simp[q]
  have I:(k==3)=false:=by simp[t]
  go_in;go_wp2;go_ret;exact⟨rfl,Em _ _ _ _⟩
 rw[Th m];have J:(b==0)=false:=by simp[j]
 have K:(b != 3)=true:=by simp[m]
 by_cases v:k=b;·subst v;have f:¬n=h:=fun f=>c ⟨rfl,f⟩;go_in;go_wp2;go_ret;exact⟨rfl,Em _ _ _ _⟩
 clear c j m;go_in;go_wp2;go_ret;exact⟨rfl,Em _ _ _ _⟩
variable {ya:Option Addr}{yn yc:Nat}
def Tr.within(l:TI)(a b:Int):Bool:=(a==b) || Tr.below l a b
def Pb(l:TI)(g c:Nat)(a b:Int)(w:TW)(m:l.length<=1000)(q:Dy w g l):Calls prog 258 #[.agg #[.s (.p g) l.length c,.s ya yn yc],.i a,.i b] w fun e t=>e=.r (.bool (Tr.within l a b))/\Bl w t:=by
 have f:Bl w (w.alloc (O2 (.p g) l.length c ya yn yc)):=QN _;unfold Tr.within;by_cases h:a=b;·subst h;rw[beq_self_eq_true,Bool.true_or];have j:(a==a)=true:=Hd;go_in;go_wp2;go_ret;exact⟨rfl,f⟩
 have j:(a==b)=false:=by simp[h]
 rw[j,Bool.false_or];generalize v:Tr.below l a b=r;have z:=Bc v;go_in;go_wp2_with fail;refine(W2 l g c a b _ m (q.below f)).mono ?_;rw[Ba z];rintro e B ⟨rfl,A⟩;go_wp2;go_ret;exact⟨rfl,f.trans (A.mono Hd)⟩
def U9(w:TW)(o b c e:Obj):Bl w ((((w.alloc o).alloc b).alloc c).alloc e):=(Em w o b c).alloc Fr _
def Ai(w:TW)(b c e f:Obj):((((w.alloc b).alloc c).alloc e).alloc f).heap[w.heap.size]?=some b/\((((w.alloc b).alloc c).alloc e).alloc f).heap[w.heap.size+1]?=some c/\((((w.alloc b).alloc c).alloc e).alloc f).heap[w.heap.size+1+1]?=some e/\((((w.alloc b).alloc c).alloc e).alloc f).heap[w.heap.size+1+1+1]?=some f:=by
 refine⟨?_,?_,?_,?_⟩
 ·rw[Br2 _ _ _ (by first|(simp;done)|(simp;omega)),Br2 _ _ _ (by first|(simp;done)|(simp;omega)),Br2 _ _ _ (by first|(simp;done)|(simp;omega))];exact Be w b
 ·rw[Br2 _ _ _ (by first|(simp;done)|(simp;omega)),Br2 _ _ _ (by first|(simp;done)|(simp;omega))];simpa using Be (w.alloc b) c
 ·rw[Br2 _ _ _ (by first|(simp;done)|(simp;omega))];simpa using Be ((w.alloc b).alloc c) e
 simpa using Be (((w.alloc b).alloc c).alloc e) f
def stay{w s:TW}{k:Nat}{o:Obj}(b:Bl w s)(h:w.heap[k]?=some o):s.heap[k]?=some o:=(b.block k (Sp h)).trans h
def Tr.given:List Int:=[-1,0,1,1,1,1,1]
def Tr.tree(cs:List Rd.Cls):List Int:=Tr.given++cs.map Rd.Cls.above
def Ie(b:List Rd.Cls):(Tr.tree b).length=7+b.length:=by simp[Tr.tree,Tr.given];omega
def Tr.fvals(l:List (Rd.Cls × Value)):List Value:=List.replicate 7 (.slice none 0 0)++l.map Prod.snd
def Tryz.infoTys:(prog.info? 105).map (fun i=>(i.zero,i.size,i.bytes))=some (some (.s none 0 0),1,24):=Lt
def Bi9(w:TW)(b g:Nat)(t:TypeId)(c:w.heap.size=g)(e:b<=g)(u:TX):(w.alloc (.cells #[u,u,u,u,u,u,u] t)).ownsRow b t 1 (.s (.p g) 7 7) 7 (List.replicate 7 u) :=
 ⟨rfl,.inr ⟨g,7,#[u,u,u,u,u,u,u],rfl,e,by rw[<- c];exact Be w _,Ck,Pf,rfl,rfl⟩⟩
def Kp.set2{j:TypeId}{b i t:Nat}{w:TW}{O:Nat}{G:Array Value}(h:w.heap[O]?=some (.cells G j (0,0)))(u p:TX):Kp (some j) b w ((w.setCell (.a O i) u).setCell (.a O t) p):=by
 intro k q c f l m;have s:=Kp.set (b:=b) (i:=i) h u k q c f l m;rw[Brk _ _ _ _ ?_];exact s;intro f;simp only at f;subst f;rw[l]at h;simp at h;exact m (by rw[h.2])
def lenOf:TX->Nat | .slice _ n _=>n | _=>0
def Bof(w:TW)(b g:Nat)(u v:TX)(t:TypeId)(c:w.heap.size=g)(e:b<=g):(w.alloc (.cells #[u,v] t)).ownsRow b t 1 (.s (.p g) 2 2) 2 [u,v] :=
 ⟨rfl,.inr ⟨g,2,#[u,v],rfl,e,by rw[<- c];exact Be w _,Ck,Pf,rfl,rfl⟩⟩
def Cf{u b n:Nat}{j:TypeId}{a:TA}{O c:Nat}{e:TV}{w:TW}(h:w.ownsRow u j b (.s a O c) n e)(t:0<n):∃g,a=some ⟨g,0,none⟩/\g<w.heap.size/\u<=g/\∀f,f<e.length->w.cell? (.a g f)=e[f]?:=by
 obtain⟨v,⟨_,z⟩|⟨g,A,B,i,p,l,C,D,F,q⟩⟩:=h
 ·omega
 simp only[Value.slice.injEq]at i;refine⟨g,i.1,Sp l,p,fun f G=>?_⟩;rw[Bb l,<- q,Bs0,Th Ck];simp
def Nm(l:List (Rd.Cls×Value))(k:Nat)(h:k<l.length):(Jt l)[k*2]?=some (.i l[k].1.above)/\(Jt l)[k*2+1]?=some l[k].2/\k*2+1<(Jt l).length:=by
 induction l generalizing k with
 | nil=>simp at h
 | cons x r ih =>
  cases k with
  | zero=>simp[Jt]
  | succ j =>
   have b:j<r.length:=by simpa using h
   obtain⟨p,q,z⟩:=ih j b;have e:Jt (x::r)=.i x.1.above::x.2::Jt r:=by simp[Jt]
   rw[e,show (j+1)*2=j*2+1+1 by omega];refine⟨by simpa using p,by simpa using q,Fr⟩
def Sf(G V:TA)(n1 c1 Y c2 b:Nat)(l:List (Rd.Cls×Value))(w:TW)(hl:l.length<=6)(hc:Fh w b (.s G n1 c1) l):Calls prog 69 #[.agg #[.s G n1 c1,.s V Y c2]] w fun e w' => ∃g c0 ya yn yc,e=.r (.agg #[.s (.p g) (Tr.tree (l.map Prod.fst)).length c0,.s ya yn yc])/\Dy w' g (Tr.tree (l.map Prod.fst))/\w'.ownsRow w.heap.size 105 1 (.s ya yn yc) (7+l.length) (Tr.fvals l)/\w.heap.size<=g/\Bl w w':=by
 obtain⟨xa,xc,a7⟩:=Bh hc.1;simp only[Value.slice.injEq]at a7;obtain⟨rfl,c6,rfl⟩:=a7;subst c6;obtain⟨i0,I,a8,a9,b0⟩:=Bsa Tryz.infoInt;obtain⟨j0,t,c7,c8,c9⟩:=Bsa Tryz.infoTys;have g2:∀w:TW,(Instr.makeSlice 126 (.i 7) (.i 7)).run prog w=.ok (.s (.p w.heap.size) 7 7) (w.alloc (O3 none 0 0 none 0 0 none 0 0 none 0 0 none 0 0 none 0 0 none 0 0)):=fun _=>Lt;go_in;go_wp2
 go_loopw [3] (fun v wr=>∃k:Nat,2<=k/\k<=7/\wr.ownsRow (w.heap.size+1+1) 3 1 v k ((Tr.given.take k).map (Value.int .i64))/\lenOf v=k/\Below (w.heap.size+1+1) ((w.alloc (O1 G l.length c1 V Y c2)).alloc (O2 none 0 0 none 0 0)) wr)
  (fun v _=>7-lenOf v)
 case atStart=>
  refine⟨2,Ck,Ck,?_,rfl,(Brm _ _).alloc Hd _⟩;exact Bof ((w.alloc (O1 G l.length c1 V Y c2)).alloc (O2 none 0 0 none 0 0)) (w.heap.size+1+1) (w.heap.size+1+1) (.i (-1)) (.i 0) 3 Hd (Bru _)
 case round=>
  obtain⟨k,d0,g3,c,d6,h⟩:=hrel;obtain⟨va,vc,rfl⟩:=Bh c;clear d6;have Z:=h.size;simp at Z;by_cases B:k<7
  ·go_wp2_with (at_builtin;refine Br3 _ rfl _ _ 26 rfl (w.heap.size+1+1) 3 i0 _ 1 8 Bta I a8 a9 b0 rfl Fm _ _ _ rfl (c.alloc _) ⟨wr.heap.size,0,none⟩ 1 1 [.i 1] rfl rfl ?c1 ?c2 ?c3 ?c4 ?c5 ?_)
   case c1=>exact Dh _ _ _ _ rfl
   case c2=>intro u m;simp at m;subst m;rfl
   case c3=>unfold maxLen;omega
   case c4=>omega
   case c5=>simp;omega
   intro v' J C z _;obtain⟨d7,d8,rfl⟩:=Bh C;have a0:J.ownsRow (w.heap.size+1+1) 3 1 (.s d7 (k+1) d8) (k+1) ((Tr.given.take (k+1)).map (Value.int .i64)):=by
    have e:(Tr.given.take (k+1))=Tr.given.take k++[1]:=by
     match k,d0,B with
     | 2,_,_=>rfl
     | 3,_,_=>rfl
     | 4,_,_=>rfl
     | 5,_,_=>rfl
     | 6,_,_=>rfl
    rw[e,Bse];simpa using C
   have K:=(h.alloc Ck (O4 1)).grown z Fr (fun j t=>(c.lt j t).1);clear z c C h;go_wp2;go_roundw
   case rel=>exact⟨k+1,Ck,Ck,a0,rfl,K⟩
   case measure=>simp[lenOf];omega
  obtain rfl:k=7:=Ck;have hB:Bl w wr:=(Bu w _ _).trans (h.mono Ck);have a4:=(h.block w.heap.size Ck).trans (Cb w _ _);have b1:=(Br2 wr (O3 none 0 0 none 0 0 none 0 0 none 0 0 none 0 0 none 0 0 none 0 0) _ (Sp a4)).trans a4;have A:=Bb b1 0;simp at A;have b2:=h.alloc Ck (O3 none 0 0 none 0 0 none 0 0 none 0 0 none 0 0 none 0 0 none 0 0);have q:(wr.alloc (O3 none 0 0 none 0 0 none 0 0 none 0 0 none 0 0 none 0 0 none 0 0)).ownsRow (w.heap.size+1+1) 105 1 (.s (.p wr.heap.size) 7 7) 7 (List.replicate 7 (.s none 0 0)):=Bi9 wr _ _ _ rfl Ck _;have b3:=c.alloc (O3 none 0 0 none 0 0 none 0 0 none 0 0 none 0 0 none 0 0 none 0 0);clear c h;go_wp2
  go_loopw [3,4,18] (fun v u i L=>∃k:Nat,k<=l.length/\i=.i k/\L.ownsRow (w.heap.size+1+1) 3 1 v (7+k) ((Tr.given++((l.map Prod.fst).take k).map Rd.Cls.above).map (Value.int .i64)) /\
    L.ownsRow (w.heap.size+1+1) 105 1 u (7+k) (List.replicate 7 (.s none 0 0)++(l.map Prod.snd).take k) /\
    Below (w.heap.size+1+1) ((w.alloc (O1 G l.length c1 V Y c2)).alloc (O2 none 0 0 none 0 0)) L)
   (fun _ _ i _=>l.length-(intOf i).toNat)
  case atStart=>exact⟨0,Ck,rfl,by simpa[Tr.given] using b3,by simpa using q,b2⟩
  case round=>
   clear b3 b2 hB a4 b1 A Z q;obtain⟨k,hk,rfl,c,q,h⟩:=hrel;obtain⟨va,vc,rfl⟩:=Bh c;obtain⟨za,zc,rfl⟩:=Bh q;have Z:=h.size;simp at Z;have hB:Bl w wr:=(Bu w _ _).trans (h.mono Ck);by_cases B:k<l.length
   ·obtain⟨g,hg,b4,_,D⟩:=Cf (Dc hc.1 (Kp.of_below (e:=none) hB) Fm) Ck;obtain⟨e1,e2,e3⟩:=Nm l k B;have A:=D (k*2) Ck;have N:=D (k*2+1) Ck;rw[e1]at A;rw[e2]at N;obtain⟨O,Q,m⟩:=Bh (hc.2 _ (Brn B));rw[m]at N;generalize b5:l[k].1.above=F at *;have d9:Hid (List.map Rd.Cls.above [l[k].1]=[F]):=by unfold Hid;simp[b5]
    have HA:Hid ((l.map Prod.fst).take (k+1)=(l.map Prod.fst).take k++[l[k].1]):=by
     unfold Hid;rw[Bss (by simpa using B)];simp
    have HB:Hid ((l.map Prod.snd).take (k+1)=(l.map Prod.snd).take k++[.s O l[k].1.fields.length Q]):=by
     unfold Hid;rw[Bss (by simpa using B),<- m];simp
    generalize l[k].1.fields.length=fl at *;clear D e1 e2 e3 b5 m;subst hg;generalize b6:((Tr.given++((l.map Prod.fst).take k).map Rd.Cls.above).map (Value.int .i64))=xs at c;have f2:=Bc b6;clear b6;generalize b7:(List.replicate 7 (Value.slice none 0 0)++(l.map Prod.snd).take k)=ys at q;have f3:=Bc b7;clear b7;go_wp2_with (at_builtin;refine Br3 _ rfl _ _ 26 rfl (w.heap.size+1+1) 3 i0 _ 1 8 Bta I a8 a9 b0 rfl Fm _ _ _ rfl ((c.alloc _).alloc _) ⟨wr.heap.size+1,0,none⟩ 1 1 [.i F] rfl rfl ?d1 ?d2 ?d3 ?d4 ?d5 ?_)
    case d1=>exact Dh _ _ _ _ Hd
    case d2=>intro u m;simp at m;subst m;rfl
    case d3=>unfold maxLen;omega
    case d4=>omega
    case d5=>simp;omega
    intro v' J C z _;have a0:J.ownsRow (w.heap.size+1+1) 3 1 v' (7+(k+1)) ((Tr.given++((l.map Prod.fst).take (k+1)).map Rd.Cls.above).map (Value.int .i64)):=by
     have e:((Tr.given++((l.map Prod.fst).take (k+1)).map Rd.Cls.above).map (Value.int .i64))=((Tr.given++((l.map Prod.fst).take k).map Rd.Cls.above).map (Value.int .i64))++[.i F]:=by
      rw[Ba HA,Bse (f:=Rd.Cls.above),Ba d9];simp only[Bse,Bsi];rfl
     rw[e,Ba f2];exact C
    have K:=((h.alloc Ck _).alloc Fr _).grown z Fr (fun j t=>(c.lt j t).1);have a3:=Dc ((q.alloc (O5 F O fl Q)).alloc (O4 F)) (Kp.of_grown (b:=w.heap.size+1+1) z ((c.alloc _).alloc _)) Fm;have b8:J.heap[wr.heap.size]?=some (O5 F O fl Q):=Kp.of_grown (b:=0) z ((c.alloc _).alloc _) _ _ _ (Bsb _) ((Br2 _ _ _ Hd).trans (Be wr _)) Fm;have y1:=Bb b8 1;have ly:=Sp b8;simp at y1;clear z c C h q;have f4:=K.size;simp at f4;go_wp2_with (at_builtin;refine Br3 _ rfl _ _ 126 rfl (w.heap.size+1+1) 105 j0 _ 1 24 underlying126 t c7 c8 c9 rfl Fm _ _ _ rfl (a3.alloc _) ⟨J.heap.size,0,none⟩ 1 1 [.s O fl Q] rfl rfl ?d1 ?d2 ?d3 ?d4 ?d5 ?_)
    case d1=>exact Dh _ _ _ _ Hd
    case d2=>intro u m;simp at m;subst m;rfl
    case d3=>unfold maxLen;omega
    case d4=>omega
    case d5=>simp;omega
    intro f5 L b9 a5 _;have f6:=Dc (a0.alloc (O6 O fl Q)) (Kp.of_grown (b:=w.heap.size+1+1) a5 (a3.alloc _)) Fm;have f7:L.ownsRow (w.heap.size+1+1) 105 1 f5 (7+(k+1)) (List.replicate 7 (.s none 0 0)++(l.map Prod.snd).take (k+1)):=by
     rw[Ba HB,<- Bsi,Ba f3];exact b9
    have f8:=(K.alloc Ck _).grown a5 Fr (fun j t=>(a3.lt j t).1);clear a5 a0 a3 b9 K;go_wp2;go_roundw
    case rel=>exact⟨k+1,Ck,Mg,f6,f7,f8⟩
    case measure=>simp[intOf];omega
   obtain rfl:k=l.length:=Ck;have a6:=(h.block (w.heap.size+1) Ck).trans (Bx w _ _);obtain⟨A,N⟩:=cl2 a6;obtain⟨f0,f1⟩:=fr2 a6;simp at A N;have ht:((l.map Prod.fst).take l.length)=l.map Prod.fst:=Bs7 Hd;rw[ht]at c;have f9:((l.map Prod.snd).take l.length)=l.map Prod.snd:=Bs7 Hd;rw[f9]at q;obtain⟨g,g0,b4,g4,D⟩:=Cf c Ck;subst g0;have HC:=Bc D;clear D;go_wp2_with fail;refine tb (.agg #[.s (.p g) (7+l.length) vc,.s za (7+l.length) zc]) (by simp[results,results69,go_sem,A,N]) ?_;refine⟨g,vc,za,7+l.length,zc,by rw[Ie,Br1],⟨by simpa using b4,fun i I=>?_⟩,?_,Ck,(hB.setCell Hd _).setCell Hd _⟩
   ·rw[Brr (w:=wr) ((Brk _ _ _ g Fr).trans (Brk wr _ _ g Fr))];have g1:i<((Tr.tree (l.map Prod.fst)).map (Value.int .i64)).length:=by simpa using I
    have h2:=Ba HC i g1;have h3:((Tr.tree (l.map Prod.fst)).map (Value.int .i64))[i]?=some (.i ((Tr.tree (l.map Prod.fst)).getD i 0)):=by
     rw[Bsf,Vm,Brl I];rfl
    rw[h2];exact h3
   exact Dc (D6 q Ck) (Kp.set2 a6 _ _) Fm
variable {ya:Option Addr}{yn yc:Nat}
def Fu(l:TP)(k:Nat)(h:k<l.length):(Bp l)[k*2]?=some (.i l[k].1)/\(Bp l)[k*2+1]?=some (.i l[k].2)/\k*2+1<(Bp l).length:=by
 induction l generalizing k with
 | nil=>simp at h
 | cons x r ih =>
  cases k with
  | zero=>simp[Bp]
  | succ j =>
   have b:j<r.length:=by simpa using h
   obtain⟨p,q,z⟩:=ih j b;have e:Bp (x::r)=.i x.1::.i x.2::Bp r:=by simp[Bp]
   rw[e,show (j+1)*2=j*2+1+1 by omega];refine⟨by simpa using p,by simpa using q,Fr⟩
def Of{z:TI}{x:Int×Int}{r:TP}:Tr.allPlainB z (x::r)=(Tr.plainB z x.1 x.2&&Tr.allPlainB z r):=by simp[Tr.allPlainB]
def Tl(l:TI)(a:TA)(h:Nat)(I:TA)(J K b:Nat)(c:TP)(w:TW)(a5:c.length<=1000)(L:Cq w b (.s I J K) c):Calls prog 158 #[.agg #[.s a l.length h,.s ya yn yc],.s I J K] w fun e w'=>e=.r (.bool (Tr.allPlainB l c))/\Bl w w':=by
 obtain⟨xa,xc,N⟩:=Bh L;simp only[Value.slice.injEq]at N;obtain⟨rfl,a0,rfl⟩:=N;subst a0;generalize f:Tr.allPlainB l c=r;have p:Hid (Tr.allPlainB l (c.drop 0)=r):=by unfold Hid;simpa using f
 clear f;have O:Bl w (w.alloc (O2 a l.length h ya yn yc)):=QN _;have Q:=Be w (O2 a l.length h ya yn yc);go_in;go_wp2
 go_loopw [9] (fun i wr=>∃k:Nat,k<=c.length/\i=.i k/\Hid (Tr.allPlainB l (c.drop k)=r)/\Bl w wr /\
   wr.heap[w.heap.size]?=some (O2 a l.length h ya yn yc))
  (fun i _=>c.length-(intOf i).toNat)
 case atStart=>exact⟨0,Ck,rfl,p,O,Q⟩
 case round=>
  clear O Q p;obtain⟨k,hk,rfl,p,j,z⟩:=hrel;have V:=j.size;by_cases Y:k<c.length
  ·obtain⟨g,hg,a6,a1,C⟩:=Cf (Dc L (Kp.of_below (e:=none) j) Fm) Ck;obtain⟨Z,e2,e3⟩:=Fu c k Y;have x0:=C (k*2) Ck;have x1:=C (k*2+1) Ck;rw[Z]at x0;rw[e2]at x1;have hd:c.drop k=c[k]::c.drop (k+1):=Brj Y;have f:=Ba p;rw[hd,Of]at f;generalize a2:c[k].1=A at *;generalize a3:c[k].2=B at *;obtain⟨c0,c1⟩:=cl2 z;have lx:=Sp z;simp at c0 c1;clear C Z e2 e3 a2 a3 hd a1;subst hg;cases m:Tr.plainB l A B with
   | true =>
    have q:Hid (Tr.allPlainB l (c.drop (k+1))=r):=by unfold Hid;rw[<- f,m];simp
    have D:=Bc m;clear m f;go_wp2_with fail;refine(Rq l a h A B _).mono ?_;rw[Ba D];rintro e F ⟨rfl,t⟩;have G:Bl w F:=(j.alloc V _).trans (t.mono Fr);have a4:=stay t ((Br2 wr (O7 A B) _ lx).trans z);clear t j z c0 c1 x0 x1 lx;go_wp2;go_roundw
    case rel=>exact⟨k+1,Ck,Mg,q,G,a4⟩
    case measure=>simp[intOf];omega
   | false =>
    have v:r=false:=by rw[<- f,m];simp
    have q:=Bc v;have D:=Bc m;clear m f v;go_wp2_with fail;refine(Rq l a h A B _).mono ?_;rw[Ba D];rintro e F ⟨rfl,t⟩;have G:Bl w F:=(j.alloc V _).trans (t.mono Fr);go_wp2;go_ret;exact⟨by rw[Ba q];rfl,G⟩
  have v:r=true:=by rw[<- Ba p,Brq Ck];rfl
  have q:=Bc v;clear v;go_wp2;go_ret;exact⟨by rw[Ba q];rfl,j⟩
def Tr.inCl(l:TI):Nat->List Rd.Cls->Int × Int
 | _,[]=>(0,0)
 | k,c::r=>if 7+(k:Int)<=c.above then (3,7+(k:Int)) else if Tr.allPlainB l c.fields=false then (3,7+(k:Int)) else Tr.inCl l (k+1) r
def Bcd(L Z:TA)(n1 v n2 c2 b:Nat)(l:List (Rd.Cls×Value))(w:TW)(hl:l.length<=6)(b6:∀p∈l,p.1.fields.length<=1000)(hc:Fh w b (.s L n1 v) l):Calls prog 105 #[.agg #[.s L n1 v,.s Z n2 c2]] w fun e w' => e=.r (.agg #[.i (Tr.inCl (Tr.tree (l.map Prod.fst)) 0 (l.map Prod.fst)).1,.i (Tr.inCl (Tr.tree (l.map Prod.fst)) 0 (l.map Prod.fst)).2,.i 0])/\Bl w w':=by
 obtain⟨xa,xc,a7⟩:=Bh hc.1;simp only[Value.slice.injEq]at a7;obtain⟨rfl,b7,rfl⟩:=a7;subst b7;generalize ht:Tr.tree (l.map Prod.fst)=T;generalize c:Tr.inCl T 0 (l.map Prod.fst)=r;have HT:=Bc ht;have I:Hid (Tr.inCl T 0 ((l.map Prod.fst).drop 0)=r):=by unfold Hid;simpa using c
 clear c ht;have a8:=Bu w (O1 L l.length v Z n2 c2) (O8 0 0 0);go_in;go_wp2_with fail;refine(Sf L Z l.length v n2 c2 b l _ hl (hc.kp (Kp.of_below (e:=none) a8) Fm Fm)).mono ?_;rw[Ba HT];rintro e N ⟨g,B,ya,yn,yc,rfl,c6,b8,hg,O⟩;clear b8;have a0:=a8.trans (O.mono Fr);have C:=stay O (Cb w _ _);have h:=stay O (Bx w _ _);have b9:=Sp h;have J:=Bb C 0;simp at J;have c7:=Sp C;have a9:=Be N (O2 (.p g) T.length B ya yn yc);have b0:Bl w (N.alloc (O2 (.p g) T.length B ya yn yc)):=a0.alloc a0.size _;have b1:=(Br2 N (O2 (.p g) T.length B ya yn yc) _ b9).trans h;clear C h a0 O;go_wp2
 go_loopw [12] (fun i wr=>∃k:Nat,k<=l.length/\i=.i k/\Hid (Tr.inCl T k ((l.map Prod.fst).drop k)=r)/\Bl w wr /\
   wr.heap[N.heap.size]?=some (O2 (.p g) T.length B ya yn yc)/\wr.heap[w.heap.size+1]?=some (O8 0 0 0))
  (fun i _=>l.length-(intOf i).toNat)
 case atStart=>exact⟨0,Ck,rfl,I,b0,a9,b1⟩
 case round=>
  clear b0 a9 b1 I J;obtain⟨k,hk,rfl,I,z,K,h⟩:=hrel;have b2:=z.size;have b3:=Sp K;have a3:=Sp h;by_cases Q:k<l.length
  ·have a4:=hc.kp (Kp.of_below (e:=none) z) Fm Fm;obtain⟨g',c3,c8,c4,a5⟩:=Cf a4.1 Ck;obtain⟨e1,e2,e3⟩:=Nm l k Q;have J:=a5 (k*2) Ck;have x1:=a5 (k*2+1) Ck;rw[e1]at J;rw[e2]at x1;have b4:=b6 _ (Brn Q);have V:=a4.2 _ (Brn Q);obtain⟨D,F,hu⟩:=Bh V;rw[hu]at x1 V;have hd:(l.map Prod.fst).drop k=l[k].1::(l.map Prod.fst).drop (k+1):=by
    rw[Brj (by simpa using Q)];simp
   have c:=Ba I;rw[hd,Tr.inCl]at c;generalize c5:l[k].1=f at *;obtain⟨c0,v⟩:=cl2 K;simp at c0 v;clear a5 e1 e2 e3 c5 hd c4 hu a4;subst c3;by_cases h1:7+(k:Int)<=f.above;·rw[Th h1]at c;have A:=Bc c;clear c;obtain⟨j,m,q⟩:=cl3 h;obtain⟨f0,f1,f2⟩:=fr3 h;simp at j m q;go_wp2;refine tb (.agg #[.i 3,.i (7+(k:Int)),.i 0]) (by simp[results,Bwg,go_sem,j,m,q,a3]) ?_;exact⟨by rw[<- Ba A],(((z.setCell Hd _).setCell Hd _).setCell Hd _).alloc Fr _⟩
   rw[Pk h1]at c;cases G:Tr.allPlainB T f.fields with
   | true =>
    rw[G,Pk Hd]at c;have A:=Bc c;have HP:=Bc G;clear c G;go_wp2_with fail;refine(Tl T (.p g) B D f.fields.length F b f.fields _ b4 (V.kp (Kp.alloc (e:=none) _ _) Fm)).mono ?_;rw[Ba HP];rintro e w2 ⟨rfl,t⟩;have a6:Bl w w2:=(z.alloc b2 _).trans (t.mono Fr);have b5:=stay t ((Br2 wr (O5 f.above D f.fields.length F) _ b3).trans K);have Y:=stay t ((Br2 wr (O5 f.above D f.fields.length F) _ a3).trans h);clear t z K h J x1 c0 v;go_wp2;go_roundw
    case rel=>exact⟨k+1,Ck,Mg,A,a6,b5,Y⟩
    case measure=>simp[intOf];omega
   | false =>
    rw[G,Th rfl]at c;have A:=Bc c;have HP:=Bc G;clear c G;go_wp2_with fail;refine(Tl T (.p g) B D f.fields.length F b f.fields _ b4 (V.kp (Kp.alloc (e:=none) _ _) Fm)).mono ?_;rw[Ba HP];rintro e w2 ⟨rfl,t⟩;have a6:Bl w w2:=(z.alloc b2 _).trans (t.mono Fr);have b5:=stay t ((Br2 wr (O5 f.above D f.fields.length F) _ b3).trans K);have Y:=stay t ((Br2 wr (O5 f.above D f.fields.length F) _ a3).trans h);obtain⟨j,m,q⟩:=cl3 Y;obtain⟨f0,f1,f2⟩:=fr3 Y;simp at j m q;go_wp2;refine tb (.agg #[.i 3,.i (7+(k:Int)),.i 0]) (by simp[results,Bwg,go_sem,j,m,q]) ?_;exact⟨by rw[<- Ba A],((a6.setCell Hd _).setCell Hd _).setCell Hd _⟩
  have C:r=(0,0):=by rw[<- Ba I,Brq Fr];rfl
  have A:=Bc C.symm;clear C;obtain⟨j,m,q⟩:=cl3 h;obtain⟨f0,f1,f2⟩:=fr3 h;simp at j m q;go_wp2;refine tb (.agg #[.i 0,.i 0,.i 0]) (by simp[results,Bwg,go_sem,j,m,q]) ?_;exact⟨by rw[<- Ba A],((z.setCell Hd _).setCell Hd _).setCell Hd _⟩
def Ot{α:Type}(P:α->Prop)(f:Rd.St->α×Rd.St)(h:∀t,P (f t).1)(n:Nat)(t:Rd.St):∀x∈(Rd.rep f n t).1,P x:=by
 induction n with
 | zero=>simp[Rd.rep]
 | succ k ih =>
  intro x b;simp only[Rd.rep,Bs1,Bth]at b;rcases b with b|b
  ·exact ih x b
  rw[b];exact h _
def Aw(s:TB):(Rd.read s).1.classes.length<=6/\∀c∈(Rd.read s).1.classes,c.fields.length<=1000:=by
 unfold Rd.read
 split
 ·simp
 split
 ·simp
 simp only[Rd.fil];refine⟨?_,?_⟩
 ·rw[Rd.rep_len];have:=Rd.cn_bd s 0 6 (Rd.ex s 77 (Rd.ex s 83 ⟨0,false⟩)) Ck;omega
 refine Ot _ _ (fun t=>?_) _ _;simp only[Rd.cls];rw[Uq];have:=Rd.cn_bd s 0 4 (Rd.nx s t).2 Ck;omega
def Nz(w:TW)(b c e:Obj):(((w.alloc b).alloc c).alloc e).heap[w.heap.size]?=some b/\(((w.alloc b).alloc c).alloc e).heap[w.heap.size+1]?=some c/\(((w.alloc b).alloc c).alloc e).heap[w.heap.size+1+1]?=some e:=by
 refine⟨?_,?_,?_⟩
 ·rw[Br2 _ _ _ (by first|(simp;done)|(simp;omega)),Br2 _ _ _ (by first|(simp;done)|(simp;omega))];exact Be w b
 ·rw[Br2 _ _ _ (by first|(simp;done)|(simp;omega))];simpa using Be (w.alloc b) c
 simpa using Be ((w.alloc b).alloc c) e
def Bg{w:TW}{k:Nat}{o:Obj}(h:w.heap[k]?=some o)(b:Obj):(w.alloc b).heap[k]?=some o:=(Br2 w b k (Sp h)).trans h
namespace Tr
def Ok (l:TI):Prop:=0<l.length/\l.getD 0 0 = -1/\∀i,0<i->i<l.length->0<=l.getD i 0/\l.getD i 0<(i:Int)
def itr (l:TI):Nat->Int->Int
 | 0,a=>a
 | k+1,a=>itr l k (ov l a)
def itr_add(l:TI)(i j:Nat)(a:Int):itr l (i+j) a=itr l j (itr l i a):=by
 induction i generalizing a with
 | zero=>simp[itr]
 | succ k ih=>rw[show k+1+j=(k+j)+1 by omega];simp[itr,ih]
def Bjt(l:TI)(a:Int)(h:a<0):ov l a = -1:=by simp[ov,h]
def Bf5(l:TI)(k:Nat):itr l k (-1) = -1:=by
 induction k with
 | zero=>rfl
 | succ j ih=>simp[itr,Bjt l (-1) Ck,ih]
def Bcf{z:TI}(h:Ok z){a:Int}(c:0<=a):ov z a<a/\-1<=ov z a:=by
 unfold ov;rw[Pk Ck]
 split
 ·omega
 by_cases b:a.toNat=0;·rw[b,h.2.1];omega
 have:=h.2.2 a.toNat Ck Ck;omega
def Bdb{z:TI}(h:Ok z){a:Int}(b:0<a)(c:a<(z.length:Int)):0<=ov z a:=by
 unfold ov;rw[Pk Ck,Pk Ck];exact(h.2.2 a.toNat Ck Ck).1
def itr_down{z:TI}(h:Ok z)(m:Nat)(a:Int)(b:0<=itr z m a):itr z m a+(m:Int)<=a:=by
 induction m generalizing a with
 | zero=>simp[itr]
 | succ k ih =>
  simp only[itr]at b ⊢;have e:=ih (ov z a) b;by_cases c:0<=a;·have:=Bcf h c;omega
  rw[Bjt z a Ck,Bf5]at b;omega
def Blv(l:TI)(c:Int)(n:Nat)(b:Int)(p:0<=c):upTo l c n b=true<->∃j,j<n/\itr l j b=c:=by
 induction n generalizing b with
 | zero=>simp[upTo]
 | succ k ih =>
  unfold upTo;by_cases g:b = -1
  ·rw[Th g]
   constructor
   ·intro h;cases h
   rintro ⟨j,_,m⟩;rw[g,Bf5]at m;omega
  rw[Pk g];by_cases f:b=c;·rw[Th f];exact⟨fun _=>⟨0,Ck,f⟩,fun _=>rfl⟩
  rw[Pk f,ih]
  constructor
  ·rintro ⟨j,m,e⟩;exact⟨j+1,Ck,e⟩
  rintro ⟨j,m,e⟩;cases j with
  | zero=>exact absurd e f
  | succ i=>exact⟨i,Ck,e⟩
def below_iff{z:TI}(h:Ok z){a B:Int}(c:0<=B)(f:a<(z.length:Int)):below z a B=true<->∃j,itr z (j+1) a=B:=by
 unfold below;rw[Blv z B _ _ c]
 constructor
 ·rintro ⟨j,_,e⟩;exact⟨j,e⟩
 rintro ⟨j,e⟩;have:=itr_down h (j+1) a Ck;exact⟨j,Ck,e⟩
def below_lt{z:TI}(h:Ok z){a B:Int}(c:0<=B)(f:a<(z.length:Int))(g:below z a B=true):B<a:=by
 obtain⟨j,e⟩:=(below_iff h c f).1 g;have:=itr_down h (j+1) a Ck;omega
def Yg{z:TI}(h:Ok z){a B c:Int}(m:0<=B)(p:0<=c)(g:a<(z.length:Int))(q:below z a B=true)(s:below z B c=true):below z a c=true:=by
 have t:=below_lt h m g q;obtain⟨i,e⟩:=(below_iff h m g).1 q;obtain⟨j,f⟩:=(below_iff h p Ck).1 s;refine(below_iff h p g).2 ⟨i+1+j,?_⟩;rw[show i+1+j+1=(i+1)+(j+1) by omega,itr_add,e,f]
def Bei{z:TI}(h:Ok z){a:Int}(c:0<a)(b:a<(z.length:Int)):below z a (ov z a)=true :=
 (below_iff h (Bdb h c b) b).2 ⟨0,rfl⟩
def Bh7{z:TI}(h:Ok z){a B:Int}(f:0<=a)(b:0<=B)(g:a<(z.length:Int))(m:below z a B=true):B=ov z a\/below z (ov z a) B=true:=by
 obtain⟨j,e⟩:=(below_iff h b g).1 m;have p:=Bcf h f;cases j with
 | zero=>left;exact e.symm
 | succ i=>right;exact(below_iff h b Ck).2 ⟨i,e⟩
def fits_iff(l:TI)(k n e m:Int):fitsB l k n e m=true<->(k=e/\n=m)\/e=0\/(e=3/\k=2)\/(e=3/\k=3/\below l n m=true):=by
 unfold fitsB;by_cases f:k=e/\n=m;·rw[Th f];simp[f]
 rw[Pk f];by_cases g:e=0;·rw[Th g];simp[g]
 rw[Pk g];by_cases h:e=3
 ·rw[Pk Ck];by_cases i:k=2;·rw[Th i];simp[h,i]
  rw[Pk i];by_cases p:k=3
  ·rw[Th p]
   constructor
   ·intro j;exact .inr (.inr (.inr ⟨h,p,j⟩))
   rintro (⟨a,b⟩|a|⟨a,b⟩|⟨a,b,c⟩)
   ·exact absurd ⟨a,b⟩ f
   ·exact absurd a g
   ·exact absurd b i
   exact c
  rw[Pk p]
  constructor
  ·intro j;cases j
  rintro (⟨a,b⟩|a|⟨a,b⟩|⟨a,b,c⟩)
  ·exact absurd ⟨a,b⟩ f
  ·exact absurd a g
  ·exact absurd b i
  exact absurd b p
 rw[Th h]
 constructor
 ·intro j;cases j
 rintro (⟨a,b⟩|a|⟨a,b⟩|⟨a,b,c⟩)
 ·exact absurd ⟨a,b⟩ f
 ·exact absurd a g
 ·exact absurd a h
 exact absurd a h
def Arg (l:TI)(k n:Int):Prop:=(k=0/\n=0)\/(k=1/\n=0)\/(k=2/\n=0)\/(k=3/\0<=n/\n<(l.length:Int))\/(k=4/\0<=n/\n<120)
def fits_refl(l:TI)(k n:Int):fitsB l k n k n=true:=(fits_iff l k n k n).2 (.inl ⟨rfl,rfl⟩)
def fits_anti{z:TI}(h:Ok z){k n b c:Int}(g:Arg z k n)(i:Arg z b c)(m:fitsB z k n b c=true)(j:fitsB z b c k n=true):k=b/\n=c:=by
 rcases(fits_iff ..).1 m with e | e|⟨e1,e2⟩|⟨e1,e2,e3⟩
 ·exact e
 ·rcases(fits_iff ..).1 j with f | f|⟨f1,f2⟩|⟨f1,f2,f3⟩
  ·exact⟨f.1.symm,f.2.symm⟩
  ·unfold Arg at g i;omega
  ·omega
  omega
 ·rcases(fits_iff ..).1 j with f | f|⟨f1,f2⟩|⟨f1,f2,f3⟩<;>omega
 rcases(fits_iff ..).1 j with f | f|⟨f1,f2⟩|⟨f1,f2,f3⟩
 ·exact⟨f.1.symm,f.2.symm⟩
 ·omega
 ·omega
 have p:=below_lt h (by unfold Arg at i;omega) (by unfold Arg at g;omega) e3;have g2:=below_lt h (by unfold Arg at g;omega) (by unfold Arg at i;omega) f3;omega
def fits_trans{z:TI}(h:Ok z){k n b c g i:Int}(p:Arg z k n)(q:Arg z b c)(s:Arg z g i)(j:fitsB z k n b c=true)(m:fitsB z b c g i=true):fitsB z k n g i=true:=by
 rcases(fits_iff ..).1 m with ⟨rfl,rfl⟩ | f|⟨f1,f2⟩|⟨f1,f2,f3⟩
 ·exact j
 ·exact(fits_iff ..).2 (.inr (.inl f))
 ·rcases(fits_iff ..).1 j with ⟨rfl,rfl⟩ | e|⟨e1,e2⟩|⟨e1,e2,e3⟩
  ·exact m
  ·omega
  ·omega
  omega
 rcases(fits_iff ..).1 j with ⟨rfl,rfl⟩ | e|⟨e1,e2⟩|⟨e1,e2,e3⟩
 ·exact m
 ·omega
 ·exact(fits_iff ..).2 (.inr (.inr (.inl ⟨f1,e2⟩)))
 refine(fits_iff ..).2 (.inr (.inr (.inr ⟨f1,e2,?_⟩)));exact Yg h (by unfold Arg at q;omega) (by unfold Arg at s;omega) (by unfold Arg at p;omega) e3 f3
def At (l:TI)(b a:Int):Prop:=a=b\/below l b a=true
def fits_ref{z:TI}{a B:Int}:fitsB z 3 a 3 B=true<->At z a B:=by
 rw[fits_iff];unfold At
 constructor
 ·rintro (⟨_,e⟩|e|⟨_,e⟩|⟨_,_,e⟩)
  ·exact .inl e.symm
  ·omega
  ·omega
  exact .inr e
 rintro (e|e)
 ·exact .inl ⟨rfl,e.symm⟩
 exact .inr (.inr (.inr ⟨rfl,rfl,e⟩))
end Tr
namespace Rf
open Go.Proofs.YtpcgnjolfahacaaGreat (Rd.St Rd.nx Rd.cn Rd.ex Rd.ty Rd.tys Rd.cls Rd.codes Rd.hnd Rd.hnds Rd.mp Rd.mps Rd.mth Rd.fil)
def at' (s:TB)(i:Int):Int:=if i<0 then -1 else if (s.length:Int)<=i then -1 else ((s[i.toNat]?.getD 0).toNat:Int)
def cnt (s:TB)(i least most:Int):Int:=if at' s i<least then -1 else if most<at' s i then -1 else at' s i
def rep {α:Type}(f:Int->α × Int):Nat->Int->List α × Int
 | 0,i=>([],i)
 | k+1,i=>if (rep f k i).2<0 then ([],-1) else if (f (rep f k i).2).2<0 then ([],-1) else ((rep f k i).1++[(f (rep f k i).2).1],(f (rep f k i).2).2)
def ty (s:TB)(i:Int):(Int × Int) × Int:=((at' s i,at' s (i+1)),i+2)
def tys (s:TB)(i:Int):Nat->List (Int × Int)
 | 0=>[]
 | k+1=>tys s i k++[(at' s (i+2*(k:Int)),at' s (i+2*(k:Int)+1))]
def cls (s:TB)(i:Int):Rd.Cls × Int :=
 if cnt s (i+1) 0 4<0 then (⟨0,[]⟩,-1) else (⟨at' s i,tys s (i+2) (cnt s (i+1) 0 4).toNat⟩,i+2+2*cnt s (i+1) 0 4)
def hndAt(s:TB)(i:Int):Rd.Hnd:=⟨at' s i,at' s (i+1),at' s (i+2),at' s (i+3)⟩
def hndTo(s:TB)(i:Int):Nat->List Rd.Hnd
 | 0=>[]
 | k+1=>hndTo s i k++[hndAt s (i+1+4*(k:Int))]
def hnds (s:TB)(i:Int):List Rd.Hnd × Int :=
 if cnt s i 0 4<0 then ([],-1) else if (s.length:Int)<i+1+4*cnt s i 0 4 then ([],-1) else (hndTo s i (cnt s i 0 4).toNat,i+1+4*cnt s i 0 4)
def mp (s:TB)(L H i:Int):Rd.Mp × Int :=
 if cnt s (i+1+2*L) 0 H<0 then (⟨0,[],[]⟩,-1)
 else (⟨at' s i,tys s (i+1) L.toNat,tys s (i+2+2*L) (cnt s (i+1+2*L) 0 H).toNat⟩,i+2+2*L+2*cnt s (i+1+2*L) 0 H)
def mps (s:TB)(i L H:Int):List Rd.Mp × Int :=
 if cnt s i 0 64<0 then ([],-1) else rep (mp s L H) (cnt s i 0 64).toNat (i+1)
def codeTo(s:TB)(i:Int):Nat->List Int
 | 0=>[]
 | k+1=>codeTo s i k++[at' s (i+(k:Int))]
structure Mth where
 m:Rd.Mth
 mapsAt:Int
 fin:Int
def mth (s:TB)(i:Int):Mth × Int :=
 let p:=cnt s (i+2) 0 4
 if p<0 then (⟨⟨0,0,[],(0,0),0,0,[],[],[]⟩,0,0⟩,-1)
 else
  let j:=i+3+2*p
  let l:=cnt s (j+2) 0 8
  let h:=cnt s (j+3) 0 8
  let n:=cnt s (j+4) 1 120
  if l<0 then (⟨⟨0,0,[],(0,0),0,0,[],[],[]⟩,0,0⟩,-1)
  else if h<0 then (⟨⟨0,0,[],(0,0),0,0,[],[],[]⟩,0,0⟩,-1)
  else if n<0 then (⟨⟨0,0,[],(0,0),0,0,[],[],[]⟩,0,0⟩,-1)
  else if (s.length:Int)<j+5+n then (⟨⟨0,0,[],(0,0),0,0,[],[],[]⟩,0,0⟩,-1)
  else
   let hs:=hnds s (j+5+n)
   if hs.2<0 then (⟨⟨0,0,[],(0,0),0,0,[],[],[]⟩,0,0⟩,-1)
   else
    let ms:=mps s hs.2 l h
    (⟨⟨at' s i,at' s (i+1),tys s (i+3) p.toNat,(at' s j,at' s (j+1)),l,h,codeTo s (j+5) n.toNat,hs.1,ms.1⟩,hs.2,ms.2⟩,ms.2)
def fil (s:TB):List Rd.Cls × List Mth × Int :=
 if at' s 0≠83 then ([],[],-1)
 else if at' s 1≠77 then ([],[],-1)
 else if cnt s 2 0 6<0 then ([],[],-1)
 else
  let cs:=rep (cls s) (cnt s 2 0 6).toNat 3
  if cs.2<0 then ([],[],-1)
  else if cnt s cs.2 1 6<0 then ([],[],-1)
  else
   let ms:=rep (mth s) (cnt s cs.2 1 6).toNat (cs.2+1)
   if ms.2<0 then ([],[],-1) else (cs.1,ms.1,ms.2)
def Lnk {α β:Type}(g:β->α)(n:Nat)(r:α × Rd.St)(x:β × Int):Prop :=
 (0<=x.2/\x.2<=(n:Int)/\r.1=g x.1/\r.2=⟨x.2.toNat,false⟩)\/((x.2<0\/(n:Int)<x.2)/\r.2.bad=true)
def Vz{F:TB}{c:Int}(b:0<=c)(e:c<(F.length:Int)):Rd.nx F ⟨c.toNat,false⟩=(at' F c,⟨(c+1).toNat,false⟩):=by
 unfold Rd.nx at';rw[Pk Hd,Pk Mc,Pk Ck,Pk Ck];rw[show (c+1).toNat=c.toNat+1 by omega]
def at_out{F:TB}{c:Int}(b:(F.length:Int)<=c):at' F c = -1:=by
 unfold at'
 split
 ·rfl
 rfl
def Uy{F:TB}{c:Int}(b:(F.length:Int)<=c):Rd.nx F ⟨c.toNat,false⟩=(0,⟨c.toNat,true⟩):=by
 unfold Rd.nx;rw[Pk Hd,Th Mc]
def at_bd(s:TB)(i:Int):-1<=at' s i/\at' s i<=255:=by
 unfold at'
 split
 ·omega
 split
 ·omega
 have:=(s[i.toNat]?.getD 0).toNat_lt;omega
def cnt_bd(s:TB)(i a b:Int)(c:-1<=b):-1<=cnt s i a b/\cnt s i a b<=b:=by
 have:=at_bd s i;unfold cnt
 split
 ·omega
 split<;>omega
def Kr{F:TB}{i a b:Int}(h:(F.length:Int)<=i)(c:0<=a):cnt F i a b = -1:=by
 unfold cnt;rw[at_out h,Th Ck]
def Fw(s:TB)(p:Nat):(Rd.nx s ⟨p,true⟩).2.bad=true:=by simp[Rd.nx]
def Df(t:Rd.St)(h:t.bad=true):∃p,t=⟨p,true⟩:=⟨t.pos,by cases t;simp_all⟩
def N7{s:TB}{i:Int}(b:0<=i)(c:i<=(s.length:Int)):Lnk id s.length (Rd.nx s ⟨i.toNat,false⟩) (at' s i,i+1):=by
 by_cases h:i<(s.length:Int)
 ·left
  rw[Vz b h];exact⟨Mc,Mc,rfl,rfl⟩
 right
 rw[Uy Ck];exact⟨.inr Mc,rfl⟩
def Oa{s:TB}{i a b:Int}(f:0<=i)(l:i<=(s.length:Int))(g:0<=a):(0<=cnt s i a b/\i<(s.length:Int)/\Rd.cn s a b ⟨i.toNat,false⟩=(cnt s i a b,⟨(i+1).toNat,false⟩))\/(cnt s i a b<0/\(Rd.cn s a b ⟨i.toNat,false⟩).2.bad=true):=by
 by_cases h:i<(s.length:Int)
 ·have m:=at_bd s i;have j:0<=at' s i:=by unfold at';rw[Pk Ck,Pk Ck];omega
  unfold Rd.cn cnt;rw[Vz f h];by_cases c:at' s i<a;·right;rw[Th c,Th c];exact⟨Ck,rfl⟩
  rw[Pk c,Pk c];by_cases e:b<at' s i;·right;rw[Th e,Th e];exact⟨Ck,rfl⟩
  left;rw[Pk e,Pk e];exact⟨j,h,rfl⟩
 right
 refine⟨by rw[Kr Ck g];omega,?_⟩;unfold Rd.cn;rw[Uy Ck]
 split
 ·rfl
 split<;>rfl
def Jh(s:TB)(a b:Int)(p:Nat):(Rd.cn s a b ⟨p,true⟩).2.bad=true:=by
 unfold Rd.cn
 split
 ·rfl
 split
 ·rfl
 exact Fw s p
def Sn{α β:Type}{g:β->α}{n:Nat}{f:Rd.St->α×Rd.St}{F:Int->β×Int}(c:∀i:Int,0<=i->i<=(n:Int)->Lnk g n (f ⟨i.toNat,false⟩) (F i)) (h:∀p,(f ⟨p,true⟩).2.bad=true)(j:∀i:Int,(n:Int)<i->(F i).2<0\/(n:Int)<(F i).2)(k:Nat)(i:Int)(l:0<=i)(m:i<=(n:Int)):Lnk (List.map g) n (Rd.rep f k ⟨i.toNat,false⟩) (rep F k i):=by
 induction k with
 | zero=>left;exact⟨l,m,rfl,rfl⟩
 | succ k ih =>
  unfold Rd.rep rep;rcases ih with ⟨q,s,t,v⟩|⟨b,z⟩
  ·rw[Pk Ck,t,v];rcases c _ q s with ⟨A,B,C,D⟩|⟨G,I⟩
   ·left
    rw[Pk Ck];exact⟨A,B,by simp[C],D⟩
   right
   refine⟨?_,I⟩
   split
   ·left;simp
   exact G
  right
  refine⟨?_,?_⟩
  ·split
   ·left;simp
   split
   ·left;simp
   rcases b with b|b
   ·omega
   rcases j _ b with e|e
   ·omega
   right;exact e
  obtain⟨p,J⟩:=Df _ z;rw[J];exact h p
def Mq{α:Type}{f:Rd.St->α×Rd.St}(b:∀p,(f ⟨p,true⟩).2.bad=true)(k:Nat)(p:Nat):(Rd.rep f k ⟨p,true⟩).2.bad=true:=by
 induction k with
 | zero=>rfl
 | succ k ih =>
  unfold Rd.rep;obtain⟨q,c⟩:=Df _ ih;simp only;rw[c];exact b q
end Rf
end Go.Proofs.YtpcgnjolfahacaaGreat
