/-
  The walks over the document's small functions of the rules: one, ref, gives, and, turned, top, FrameFits.
-/
import Derived.Deep.RegionHeld3
import Derived.Test.YteffpdofcgbokaaGreatPk08

namespace Go.Proofs.YteffpdofcgbokaaGreat
open Go.RowKit

structure Ck.Fr where
 locals:List (Int × Int)
 stack:List (Int × Int)
def Ck.gives (r:Int × Int):List (Int × Int):=if r.1=0 then [] else [r]
def Ck.turned (a b:Int × Int) (l:List (Int × Int)):List (Int × Int):=l.map fun x=>if x=a then b else x
def Ck.fitAll (T:List Int):List (Int × Int)→List (Int × Int)→Bool
 | _,[]=>true
 | [],_ :: _=>false
 | s :: ss,t :: ts=>Tr.rfits T s.1 s.2 t.1 t.2 && Ck.fitAll T ss ts
/-- the topmost types fit those wanted -/
def Ck.top (T:List Int) (st want:List (Int × Int)):Bool:=if st.length < want.length then false else Ck.fitAll T (st.drop (st.length - want.length)) want
def Ck.frameFits (T:List Int) (a b:Ck.Fr):Bool :=
 if a.stack.length ≠ b.stack.length then false else if a.locals.length ≠ b.locals.length then false else Ck.top T a.locals b.locals && Ck.top T a.stack b.stack

set_option maxRecDepth 100000 in
set_option maxHeartbeats 1000000 in
theorem rone_any (k:Int) (w:World):Calls Tryz.prog 223 #[.int .i64 k] w fun e w'=>∃ a c,e=.returned (.slice a 1 c)∧TyR w' (.slice a 1 c) [(k,0)]∧Below w.heap.size w w':=by
 have h:=TyR.new1 w k 0
 go_enter Tryz.func223,Tryz.ntmps223
 go_wp2
 go_ret
 exact ⟨_,_,rfl,h,(Below.refl _ _).alloc (Nat.le_refl _) _⟩
set_option maxRecDepth 100000 in
set_option maxHeartbeats 1000000 in
theorem rref_any (c:Int) (w:World):Calls Tryz.prog 126 #[.int .i64 c] w fun e w'=>e=.returned (.agg #[.int .i64 3,.int .i64 c])∧Below w.heap.size w w':=by
 go_enter Tryz.func126,Tryz.ntmps126
 go_wp2_with fail
 refine bodyPost_ret (v:=.agg #[.int .i64 3,.int .i64 c]) (by simp [results,Tryz.results126,go_sem]) rfl ?_
 exact ⟨rfl,(Below.refl _ _).alloc (Nat.le_refl _) _⟩
set_option maxRecDepth 100000 in
set_option maxHeartbeats 1000000 in
theorem rgives_any (m:RMV) (w:World):Calls Tryz.prog 224 #[m.val] w fun e w'=>∃ a c,e=.returned (.slice a (Ck.gives (m.r1,m.r2)).length c)∧TyR w' (.slice a (Ck.gives (m.r1,m.r2)).length c) (Ck.gives (m.r1,m.r2))∧Below w.heap.size w w':=by
 obtain ⟨cl,nm,pa,pl,pc,r1,r2,lo,st,code,ha,hl,hc,ma,ml,mc,mAt,fin⟩:=m
 simp only [RMV.val]
 unfold Ck.gives
 simp only
 by_cases h:r1=0
 ·subst h
  go_enter Tryz.func224,Tryz.ntmps224
  go_wp2
  go_ret
  exact ⟨none,0,rfl,TyR.nil _,(Below.refl _ _).alloc (Nat.le_refl _) _⟩
 ·rw [if_neg h]
  have h':(r1 == 0)=false:=by simpa using h
  have hn:=TyR.new1 (w.alloc (.cells #[.int .i64 cl,.int .i64 nm,.slice pa pl pc,.int .i64 r1,.int .i64 r2,.int .i64 lo,.int .i64 st,.string code,.slice ha hl hc,.slice ma ml mc,.int .i64 mAt,.int .i64 fin] 52)) r1 r2
  clear h
  go_enter Tryz.func224,Tryz.ntmps224
  go_wp2
  go_ret
  exact ⟨_,_,rfl,by simpa using hn,below2 _ _ _⟩

theorem below_drewN {B n:Nat}{a w:World} (h:Below B a w):Below B a (w.drewN n):=⟨h.os,h.tape,h.output,h.size,h.block⟩
theorem turned_snoc (a b:Int × Int) (l:List (Int × Int)) (q:Nat) (hq:q < l.length):Ck.turned a b (l.take (q+1))=Ck.turned a b (l.take q) ++ [if l[q]=a then b else l[q]]:=by
 unfold Ck.turned
 rw [List.take_succ_eq_append_getElem hq,List.map_append]
 rfl
theorem own_tyr {w:World}{b:Nat}{v:Value}{l:List (Int × Int)}{n:Nat} (h:w.ownsRow b 48 2 v n (tcells l)) (hn:n=l.length):TyR w v l:=by
 subst hn
 exact TyR.of_tys h

set_option maxRecDepth 100000 in
set_option maxHeartbeats 2000000 in
theorem rand_any (l1 l2:List (Int × Int)) (a1 a2:Option Addr) (n1 c1 n2 c2:Nat) (w:World) (h1:TyR w (.slice a1 n1 c1) l1) (h2:TyR w (.slice a2 n2 c2) l2) (hl:l1.length+l2.length≤10000) :
  Calls Tryz.prog 206 #[.slice a1 n1 c1,.slice a2 n2 c2] w fun e w'=>∃ a c,e=.returned (.slice a (l1.length+l2.length) c)∧TysAt w' w.heap.size (.slice a (l1.length+l2.length) c) (l1 ++ l2)∧Below w.heap.size w w':=by
 go_enter Tryz.func206,Tryz.ntmps206
 go_wp2_with (at_builtin; refine append_tyr rfl _ _ rfl w.heap.size _ [] l1 a1 n1 c1 rfl (World.ownsRow_nil _ _ _ _) rfl h1 (by simp; omega) (by omega) ?_)
 intro v' w1 hown1 hgrow
 have hB1:=(Below.refl w.heap.size w).grown hgrow (by omega) (fun j hj=>by simp [Value.ownBlock] at hj)
 have h2':=h2.below hB1
 have hs1:=hB1.size
 clear hgrow h1 h2
 go_wp2_with (at_builtin; refine append_tyr rfl _ _ rfl w.heap.size _ l1 l2 a2 n2 c2 rfl hown1 rfl h2' (by omega) (by omega) ?_)
 intro v'' w2 hown2 hgrow
 have hB2:=hB1.grown hgrow (by omega) (fun j hj=>(hown1.lt j hj).1)
 obtain ⟨a,c,rfl⟩:=own_shape hown2
 clear hgrow
 go_wp2
 go_ret
 exact ⟨a,c,rfl,by unfold TysAt; rw [List.length_append]; exact hown2,hB2⟩

set_option maxRecDepth 100000 in
set_option maxHeartbeats 4000000 in
theorem rturned_any (l:List (Int × Int)) (va:Option Addr) (vn vc:Nat) (k n k' n':Int) (w:World) (h1:TyR w (.slice va vn vc) l) (hl:l.length≤10000) :
  Calls Tryz.prog 207 #[.slice va vn vc,.agg #[.int .i64 k,.int .i64 n],.agg #[.int .i64 k',.int .i64 n']] w fun e w'=>∃ a c,e=.returned (.slice a l.length c)∧TysAt w' w.heap.size (.slice a l.length c) (Ck.turned (k,n) (k',n') l)∧Below w.heap.size w w':=by
 obtain ⟨rfl,-,-⟩:=h1.cap
 obtain ⟨i0,hi,hz0,hz1,hz2⟩:=info_parts Tryz.infoType
 have hB0:=below2 w (.cells #[.int .i64 k,.int .i64 n] 48) (.cells #[.int .i64 k',.int .i64 n'] 48)
 have C0:=alloc1_blk w (.cells #[.int .i64 k,.int .i64 n] 48) (.cells #[.int .i64 k',.int .i64 n'] 48)
 have D0:=alloc2_blk w (.cells #[.int .i64 k,.int .i64 n] 48) (.cells #[.int .i64 k',.int .i64 n'] 48)
 go_enter Tryz.func207,Tryz.ntmps207
 go_wp2
 go_loopw [7,8] (fun v i wr=>∃ q:Nat,q≤l.length∧i=.int .i64 (q:Int)∧wr.ownsRow (w.heap.size+1+1) 48 2 v q (tcells (Ck.turned (k,n) (k',n') (l.take q)))∧Below w.heap.size w wr ∧
   wr.heap[w.heap.size]?=some (.cells #[.int .i64 k,.int .i64 n] 48 (0,0))∧wr.heap[w.heap.size+1]?=some (.cells #[.int .i64 k',.int .i64 n'] 48 (0,0)))
  (fun _ i _=>l.length - (intOf i).toNat)
 case atStart=>exact ⟨0,by omega,rfl,World.ownsRow_nil _ _ _ _,hB0,C0,D0⟩
 case round =>
  clear hB0 C0 D0
  obtain ⟨q,hq,rfl,hown,hB,hC,hD⟩:=hrel
  have hBs:=hB.size
  have lC:=lt_of_block hC
  have lD:=lt_of_block hD
  obtain ⟨ua,uc,rfl⟩:=own_shape hown
  by_cases hkn:q < l.length
  ·obtain ⟨g,o,rfl,hg,hat⟩:=(h1.below hB).at (by omega)
   obtain ⟨x0,x1⟩:=hat q hkn
   have hd:Ck.turned (k,n) (k',n') (l.take (q+1))=Ck.turned (k,n) (k',n') (l.take q) ++ [if l[q]=(k,n) then (k',n') else l[q]]:=turned_snoc _ _ l q hkn
   generalize l[q]=t at *
   obtain ⟨t1,t2⟩:=t
   simp only at x0 x1
   have y0:=blk_cell hC 0
   have y1:=blk_cell hC 1
   have z0:=blk_cell hD 0
   have z1:=blk_cell hD 1
   simp at y0 y1 z0 z1
   have kb:(q:Int) < (l.length:Int):=by omega
   have HAT:=hide hat
   clear hat
   by_cases he1:t1=k
   ·subst he1
    by_cases he2:t2=n
    ·subst he2
     rw [if_pos rfl] at hd
     have HD:=hide hd
     clear hd
     go_wp2
     go_quiet (fail)
     go_wp2_with (at_builtin; refine wpList_append_own _ rfl _ _ 46 rfl (w.heap.size+1+1) 48 i0 _ 2 16 Tryz.underlying46 hi hz0 hz1 hz2 rfl (by decide) _ _ _ rfl (hown.alloc _) ⟨wr.heap.size,0,none⟩ 1 1 [.int .i64 k',.int .i64 n'] rfl rfl ?c1 ?c2 ?c3 ?c4 ?c5 ?_)
     case c1=>exact cells_new _ _ _ _ rfl
     case c2=>intro u hu; simp at hu; rcases hu with rfl | rfl <;> rfl
     case c3=>unfold maxLen; omega
     case c4=>omega
     case c5=>simp; omega
     rename_i nq
     intro v' w2 hown2 hgrow _
     have hown':(wr.drewN nq).ownsRow (w.heap.size+1+1) 48 2 (.slice ua q uc) q (tcells (Ck.turned (t1,t2) (k',n') (l.take q))):=hown
     have hB2:=((below_drewN (n:=nq) hB).alloc (show w.heap.size≤(wr.drewN nq).heap.size from hBs) (.cells #[.int .i64 k',.int .i64 n'] 48)).grown hgrow (by simp; omega) (fun j hj=>by have:=(hown.lt j hj).1; omega)
     have K1:Kp none 0 wr ((wr.drewN nq).alloc (.cells #[.int .i64 k',.int .i64 n'] 48)):=Kp.alloc (wr.drewN nq) _
     have hC2:w2.heap[w.heap.size]?=some (.cells #[.int .i64 t1,.int .i64 t2] 48 (0,0)):=by
      rw [hgrow.block _ (by simp; omega) (fun hh=>by have:=(hown.lt _ hh.symm).1; omega)]
      exact K1 _ _ _ (Nat.zero_le _) hC (by simp)
     have hD2:w2.heap[w.heap.size+1]?=some (.cells #[.int .i64 k',.int .i64 n'] 48 (0,0)):=by
      rw [hgrow.block _ (by simp; omega) (fun hh=>by have:=(hown.lt _ hh.symm).1; omega)]
      exact K1 _ _ _ (Nat.zero_le _) hD (by simp)
     have hown3:w2.ownsRow (w.heap.size+1+1) 48 2 v' (q+1) (tcells (Ck.turned (t1,t2) (k',n') (l.take (q+1)))):=by rw [unhide HD,tcells_app]; exact hown2
     clear hgrow hown hown' hown2 hB hC hD K1 x0 x1 y0 y1 z0 z1
     go_wp2
     go_roundw
     case rel=>exact ⟨q+1,by omega,by go_num,hown3,hB2,hC2,hD2⟩
     case measure=>simp [intOf]; omega
    ·have he:(t2 == n)=false:=by simpa using he2
     rw [if_neg (by simpa using he2)] at hd
     clear he2
     have HD:=hide hd
     clear hd
     go_wp2
     go_quiet (fail)
     go_wp2_with (at_builtin; refine wpList_append_own _ rfl _ _ 46 rfl (w.heap.size+1+1) 48 i0 _ 2 16 Tryz.underlying46 hi hz0 hz1 hz2 rfl (by decide) _ _ _ rfl (hown.alloc _) ⟨wr.heap.size,0,none⟩ 1 1 [.int .i64 t1,.int .i64 t2] rfl rfl ?c1 ?c2 ?c3 ?c4 ?c5 ?_)
     case c1=>exact cells_new _ _ _ _ rfl
     case c2=>intro u hu; simp at hu; rcases hu with rfl | rfl <;> rfl
     case c3=>unfold maxLen; omega
     case c4=>omega
     case c5=>simp; omega
     rename_i nq
     intro v' w2 hown2 hgrow _
     have hown':(wr.drewN nq).ownsRow (w.heap.size+1+1) 48 2 (.slice ua q uc) q (tcells (Ck.turned (t1,n) (k',n') (l.take q))):=hown
     have hB2:=((below_drewN (n:=nq) hB).alloc (show w.heap.size≤(wr.drewN nq).heap.size from hBs) (.cells #[.int .i64 t1,.int .i64 t2] 48)).grown hgrow (by simp; omega) (fun j hj=>by have:=(hown.lt j hj).1; omega)
     have K1:Kp none 0 wr ((wr.drewN nq).alloc (.cells #[.int .i64 t1,.int .i64 t2] 48)):=Kp.alloc (wr.drewN nq) _
     have hC2:w2.heap[w.heap.size]?=some (.cells #[.int .i64 t1,.int .i64 n] 48 (0,0)):=by
      rw [hgrow.block _ (by simp; omega) (fun hh=>by have:=(hown.lt _ hh.symm).1; omega)]
      exact K1 _ _ _ (Nat.zero_le _) hC (by simp)
     have hD2:w2.heap[w.heap.size+1]?=some (.cells #[.int .i64 k',.int .i64 n'] 48 (0,0)):=by
      rw [hgrow.block _ (by simp; omega) (fun hh=>by have:=(hown.lt _ hh.symm).1; omega)]
      exact K1 _ _ _ (Nat.zero_le _) hD (by simp)
     have hown3:w2.ownsRow (w.heap.size+1+1) 48 2 v' (q+1) (tcells (Ck.turned (t1,n) (k',n') (l.take (q+1)))):=by rw [unhide HD,tcells_app]; exact hown2
     clear hgrow hown hown' hown2 hB hC hD K1 x0 x1 y0 y1 z0 z1
     go_wp2
     go_roundw
     case rel=>exact ⟨q+1,by omega,by go_num,hown3,hB2,hC2,hD2⟩
     case measure=>simp [intOf]; omega
   ·have he:(t1 == k)=false:=by simpa using he1
    rw [if_neg (by simpa using fun h=>absurd h he1)] at hd
    clear he1
    have HD:=hide hd
    clear hd
    go_wp2
    go_quiet (fail)
    go_wp2_with (at_builtin; refine wpList_append_own _ rfl _ _ 46 rfl (w.heap.size+1+1) 48 i0 _ 2 16 Tryz.underlying46 hi hz0 hz1 hz2 rfl (by decide) _ _ _ rfl (hown.alloc _) ⟨wr.heap.size,0,none⟩ 1 1 [.int .i64 t1,.int .i64 t2] rfl rfl ?c1 ?c2 ?c3 ?c4 ?c5 ?_)
    case c1=>exact cells_new _ _ _ _ rfl
    case c2=>intro u hu; simp at hu; rcases hu with rfl | rfl <;> rfl
    case c3=>unfold maxLen; omega
    case c4=>omega
    case c5=>simp; omega
    rename_i nq
    intro v' w2 hown2 hgrow _
    have hown':(wr.drewN nq).ownsRow (w.heap.size+1+1) 48 2 (.slice ua q uc) q (tcells (Ck.turned (k,n) (k',n') (l.take q))):=hown
    have hB2:=((below_drewN (n:=nq) hB).alloc (show w.heap.size≤(wr.drewN nq).heap.size from hBs) (.cells #[.int .i64 t1,.int .i64 t2] 48)).grown hgrow (by simp; omega) (fun j hj=>by have:=(hown.lt j hj).1; omega)
    have K1:Kp none 0 wr ((wr.drewN nq).alloc (.cells #[.int .i64 t1,.int .i64 t2] 48)):=Kp.alloc (wr.drewN nq) _
    have hC2:w2.heap[w.heap.size]?=some (.cells #[.int .i64 k,.int .i64 n] 48 (0,0)):=by
     rw [hgrow.block _ (by simp; omega) (fun hh=>by have:=(hown.lt _ hh.symm).1; omega)]
     exact K1 _ _ _ (Nat.zero_le _) hC (by simp)
    have hD2:w2.heap[w.heap.size+1]?=some (.cells #[.int .i64 k',.int .i64 n'] 48 (0,0)):=by
     rw [hgrow.block _ (by simp; omega) (fun hh=>by have:=(hown.lt _ hh.symm).1; omega)]
     exact K1 _ _ _ (Nat.zero_le _) hD (by simp)
    have hown3:w2.ownsRow (w.heap.size+1+1) 48 2 v' (q+1) (tcells (Ck.turned (k,n) (k',n') (l.take (q+1)))):=by rw [unhide HD,tcells_app]; exact hown2
    clear hgrow hown hown' hown2 hB hC hD K1 x0 x1 y0 y1 z0 z1
    go_wp2
    go_roundw
    case rel=>exact ⟨q+1,by omega,by go_num,hown3,hB2,hC2,hD2⟩
    case measure=>simp [intOf]; omega
  ·have e:l.take q=l:=List.take_of_length_le (by omega)
   have e2:q=l.length:=by omega
   subst e2
   rw [e] at hown
   have hlt:(Ck.turned (k,n) (k',n') l).length=l.length:=by simp [Ck.turned]
   clear e
   go_wp2
   go_ret
   exact ⟨ua,uc,rfl,by unfold TysAt; rw [hlt]; exact own_mono hown (by omega),hB⟩
end Go.Proofs.YteffpdofcgbokaaGreat

/-
  The walks over the document's top and FrameFits.
-/
namespace Go.Proofs.YteffpdofcgbokaaGreat
open Go.RowKit

/-- the cells of a file, and what its fits tells -/
structure RFv where
 fa1:Option Addr
 fl:Nat
 fc1:Nat
 fa2:Option Addr
 fm:Nat
 fc2:Nat
def RFv.val (f:RFv):Value:=.agg #[.slice f.fa1 f.fl f.fc1,.slice f.fa2 f.fm f.fc2]
def RFl.v (f:RFl):RFv:=⟨f.a1,f.l.length,f.c1,f.a2,f.ms.length,f.c2⟩
def RFv.fitsAs (f:RFv) (T:List Int) (w:World):Prop:=∀ k n k' n' w',Below w.heap.size w w' →
 Calls Tryz.prog 94 #[f.val,.agg #[.int .i64 k,.int .i64 n],.agg #[.int .i64 k',.int .i64 n']] w' fun e w''=>e=.returned (.bool (Tr.rfits T k n k' n'))∧Below w'.heap.size w' w''
theorem RFv.fitsAs.below {f:RFv}{T:List Int}{w w':World} (h:f.fitsAs T w) (hb:Below w.heap.size w w'):f.fitsAs T w':=fun k n k' n' w'' h'=>h k n k' n' w'' (hb.trans (h'.mono hb.size))
theorem RFl.fitsAs {f:RFl}{w:World} (hf:f.ok w):f.v.fitsAs f.T w:=fun k n k' n' w' hb=>rfits_any f.a1 f.a2 f.c1 f.ms.length f.c2 f.bb f.l k n k' n' w' (by have:=hf.1; omega) (hf.below hb).2.2.2.2.1

set_option maxRecDepth 100000 in
set_option maxHeartbeats 8000000 in
theorem rtop_any (f:RFv) (T:List Int) (st wa:List (Int × Int)) (a1 a2:Option Addr) (n1 c1 n2 c2:Nat) (w:World) (hF:f.fitsAs T w) (h1:TyR w (.slice a1 n1 c1) st) (h2:TyR w (.slice a2 n2 c2) wa) (hl1:st.length≤20000) (hl2:wa.length≤20000) :
  Calls Tryz.prog 125 #[f.val,.slice a1 n1 c1,.slice a2 n2 c2] w fun e w'=>e=.returned (.bool (Ck.top T st wa))∧Below w.heap.size w w':=by
 obtain ⟨rfl,-,-⟩:=h1.cap
 obtain ⟨rfl,-,-⟩:=h2.cap
 obtain ⟨fa1,fl,fc1,fa2,fm,fc2⟩:=f
 unfold RFv.fitsAs at hF
 simp only [RFv.val] at hF ⊢
 have HF:=hide hF
 clear hF
 have hB0:Below w.heap.size w (w.alloc (.cells #[.slice fa1 fl fc1,.slice fa2 fm fc2] 28)):=(Below.refl _ _).alloc (Nat.le_refl _) _
 have C0:=alloc_blk w (.cells #[.slice fa1 fl fc1,.slice fa2 fm fc2] 28)
 unfold Ck.top
 by_cases hlt:st.length < wa.length
 ·rw [if_pos hlt]
  have hlt':(st.length:Int) - (wa.length:Int) < 0:=by omega
  clear hlt
  go_enter Tryz.func125,Tryz.ntmps125
  go_wp2
  go_ret
  exact ⟨rfl,hB0⟩
 ·rw [if_neg hlt]
  obtain ⟨low,hlow⟩:∃ low:Nat,st.length=low+wa.length:=⟨st.length - wa.length,by omega⟩
  have e0:st.length - wa.length=low:=by omega
  rw [e0]
  generalize hr:Ck.fitAll T (st.drop low) wa=r
  have HR:Hid (Ck.fitAll T ((st.drop low).drop 0) (wa.drop 0)=r):=hr
  have hsub:(st.length:Int) - (wa.length:Int)=(low:Int):=by omega
  have hle:low+wa.length≤st.length:=by omega
  have hge:st.length≤low+wa.length:=by omega
  clear hlt e0 hr hlow
  go_enter Tryz.func125,Tryz.ntmps125
  go_wp2
  go_loopw [8] (fun i wr=>∃ q:Nat,q≤wa.length∧i=.int .i64 (q:Int)∧Hid (Ck.fitAll T ((st.drop low).drop q) (wa.drop q)=r)∧Below w.heap.size w wr∧wr.heap[w.heap.size]?=some (.cells #[.slice fa1 fl fc1,.slice fa2 fm fc2] 28 (0,0)))
   (fun i _=>wa.length - (intOf i).toNat)
  case atStart=>exact ⟨0,by omega,rfl,HR,hB0,C0⟩
  case round =>
   clear HR hB0 C0
   obtain ⟨q,hq,rfl,HR,hB,hC⟩:=hrel
   have hBs:=hB.size
   have lF:=lt_of_block hC
   by_cases hkn:q < wa.length
   ·obtain ⟨g,o,rfl,hg,hat⟩:=(h1.below hB).at (by omega)
    obtain ⟨g2,o2,rfl,hg2,hat2⟩:=(h2.below hB).at (by omega)
    have hlq:low+q < st.length:=by omega
    obtain ⟨x0,x1⟩:=hat (low+q) hlq
    obtain ⟨y0,y1⟩:=hat2 q hkn
    have hr:=unhide HR
    have e1:(st.drop low).drop q=st[low+q] :: (st.drop low).drop (q+1):=by
     rw [List.drop_drop,List.drop_drop,List.drop_eq_getElem_cons hlq]
     rfl
    have e2:wa.drop q=wa[q] :: wa.drop (q+1):=List.drop_eq_getElem_cons hkn
    rw [e1,e2,Ck.fitAll] at hr
    generalize st[low+q]=s at *
    generalize wa[q]=t at *
    obtain ⟨s1,s2⟩:=s
    obtain ⟨t1,t2⟩:=t
    simp only at x0 x1 y0 y1 hr
    have hc:=unhide HF s1 s2 t1 t2 _ hB.drew
    generalize Tr.rfits T s1 s2 t1 t2=A at *
    have HC:=hide hc
    have f0:=blk_cell hC 0
    have f1:=blk_cell hC 1
    simp at f0 f1
    have kb:(q:Int) < (wa.length:Int):=by omega
    have kb2:(low:Int)+(q:Int) < (st.length:Int):=by omega
    have kw:IntKind.i64.wrap ((low:Int)+(q:Int))=(low:Int)+(q:Int):=wrap_in _ (by omega) (by omega)
    have kn:((low:Int)+(q:Int)).toNat=low+q:=by omega
    have k0:(0:Int)≤(low:Int)+(q:Int):=by omega
    clear hat hat2 e1 e2 hc HR
    go_wp2
    go_region_held3 (fun w'=>w'.cell? ⟨w.heap.size,0,none⟩=some (.slice fa1 fl fc1)∧w'.cell? ⟨w.heap.size,1,none⟩=some (.slice fa2 fm fc2)∧w'.cell? ⟨g,o+(low+q) * 2,none⟩=some (.int .i64 s1)∧w'.cell? ⟨g,o+(low+q) * 2+1,none⟩=some (.int .i64 s2)∧w'.cell? ⟨g2,o2+q * 2,none⟩=some (.int .i64 t1)∧w'.cell? ⟨g2,o2+q * 2+1,none⟩=some (.int .i64 t2))
     (first | exact ⟨f0,f1,x0,x1,y0,y1⟩ | exact ⟨(hb7.cell lF).trans f0,(hb7.cell lF).trans f1,(hb7.cell hg).trans x0,(hb7.cell hg).trans x1,(hb7.cell hg2).trans y0,(hb7.cell hg2).trans y1⟩)
     (first | (go_at_call 94; refine (unhide HC).mono ?_; rintro e w7 ⟨rfl,hb7⟩))
    have hB7:=hB.drew.trans (hb7.mono hBs)
    have hC7:=stay hb7 (show (wr.drew).heap[w.heap.size]?=_ from hC)
    clear hb7 x0 x1 y0 y1 f0 f1 HC
    cases A with
    | true =>
     have HG:Hid (Ck.fitAll T ((st.drop low).drop (q+1)) (wa.drop (q+1))=r):=by unfold Hid; rw [← hr]; simp
     clear hr
     go_wp2
     go_roundw
     case rel=>exact ⟨q+1,by omega,by go_num,HG,hB7,hC7⟩
     case measure=>simp [intOf]; omega
    | false =>
     have HE:Hid (r=false):=by unfold Hid; rw [← hr]; simp
     clear hr
     go_wp2
     go_ret
     exact ⟨by rw [unhide HE]; rfl,hB7⟩
   ·have HE:Hid (r=true):=by unfold Hid; rw [← unhide HR,List.drop_eq_nil_of_le (by omega:wa.length≤q),Ck.fitAll]
    have kb:¬ (q:Int) < (wa.length:Int):=by omega
    clear HR
    go_wp2
    go_ret
    exact ⟨by rw [unhide HE]; rfl,hB⟩

/-- a frame's two slices -/
structure FrV where
 la:Option Addr
 ln:Nat
 lc:Nat
 sa:Option Addr
 sn:Nat
 sc:Nat
def FrV.val (v:FrV):Value:=.agg #[.slice v.la v.ln v.lc,.slice v.sa v.sn v.sc]
structure FrV.is (v:FrV) (x:Ck.Fr) (w:World):Prop where
 lo:TyR w (.slice v.la v.ln v.lc) x.locals
 st:TyR w (.slice v.sa v.sn v.sc) x.stack
 hl:x.locals.length≤5000
 hs:x.stack.length≤5000
theorem FrV.is.below {v:FrV}{x:Ck.Fr}{w w':World} (h:v.is x w) (hb:Below w.heap.size w w'):v.is x w':=⟨h.lo.below hb,h.st.below hb,h.hl,h.hs⟩

set_option maxRecDepth 100000 in
set_option maxHeartbeats 8000000 in
theorem rframeFits_any (f:RFv) (T:List Int) (u v:FrV) (x y:Ck.Fr) (w:World) (hF:f.fitsAs T w) (hu:u.is x w) (hv:v.is y w) :
  Calls Tryz.prog 84 #[f.val,u.val,v.val] w fun e w'=>e=.returned (.bool (Ck.frameFits T x y))∧Below w.heap.size w w':=by
 have hT1:=fun w' (h:Below w.heap.size w w')=>rtop_any f T x.locals y.locals u.la v.la u.ln u.lc v.ln v.lc w' (hF.below h) (hu.lo.below h) (hv.lo.below h) (by have:=hu.hl; omega) (by have:=hv.hl; omega)
 have hT2:=fun w' (h:Below w.heap.size w w')=>rtop_any f T x.stack y.stack u.sa v.sa u.sn u.sc v.sn v.sc w' (hF.below h) (hu.st.below h) (hv.st.below h) (by have:=hu.hs; omega) (by have:=hv.hs; omega)
 obtain ⟨e1,-,-⟩:=hu.lo.cap
 obtain ⟨e2,-,-⟩:=hu.st.cap
 obtain ⟨e3,-,-⟩:=hv.lo.cap
 obtain ⟨e4,-,-⟩:=hv.st.cap
 have b1:=hu.hl
 have b2:=hu.hs
 have b3:=hv.hl
 have b4:=hv.hs
 generalize hR:Ck.frameFits T x y=R
 unfold Ck.frameFits at hR
 rw [← e1,← e2,← e3,← e4] at hR
 generalize Ck.top T x.locals y.locals=P at *
 generalize Ck.top T x.stack y.stack=Q at *
 clear hF hu hv
 obtain ⟨fa1,fl,fc1,fa2,fm,fc2⟩:=f
 obtain ⟨la,ln,lc,sa,sn,sc⟩:=u
 obtain ⟨la',ln',lc',sa',sn',sc'⟩:=v
 simp only [RFv.val,FrV.val] at hT1 hT2 hR e1 e2 e3 e4 ⊢
 have bn1:ln≤5000:=by omega
 have bn2:sn≤5000:=by omega
 have bn3:ln'≤5000:=by omega
 have bn4:sn'≤5000:=by omega
 have H1:=hide hT1
 have H2:=hide hT2
 have hB0:=below3 w (.cells #[.slice fa1 fl fc1,.slice fa2 fm fc2] 28) (.cells #[.slice la ln lc,.slice sa sn sc] 75) (.cells #[.slice la' ln' lc',.slice sa' sn' sc'] 75)
 have C0:=blks3 w (.cells #[.slice fa1 fl fc1,.slice fa2 fm fc2] 28) (.cells #[.slice la ln lc,.slice sa sn sc] 75) (.cells #[.slice la' ln' lc',.slice sa' sn' sc'] 75)
 clear hT1 hT2 e1 e2 e3 e4 b1 b2 b3 b4
 by_cases h1:sn=sn'
 ·subst h1
  rw [if_neg (by simp)] at hR
  by_cases h2:ln=ln'
  ·subst h2
   rw [if_neg (by simp)] at hR
   have HE:=hide hR
   clear hR
   go_enter Tryz.func84,Tryz.ntmps84
   go_wp2_with fail
   refine (unhide H1 _ hB0).mono ?_
   rintro e w1 ⟨rfl,hb1⟩
   have hB1:=hB0.trans (hb1.mono hB0.size)
   have F1:=stay hb1 C0.1
   have A1:=stay hb1 C0.2.1
   have B1:=stay hb1 C0.2.2
   have f0:=blk_cell F1 0
   have f1:=blk_cell F1 1
   have a1:=blk_cell A1 1
   have b1:=blk_cell B1 1
   have lF:=lt_of_block F1
   have lA:=lt_of_block A1
   have lB:=lt_of_block B1
   simp at f0 f1 a1 b1
   go_wp2_with fail
   refine (unhide H2 _ hB1).mono ?_
   rintro e w2 ⟨rfl,hb2⟩
   have hB2:=hB1.trans (hb2.mono hB1.size)
   cases P with
   | true =>
    go_wp2
    go_ret
    exact ⟨by rw [← unhide HE]; rfl,hB2⟩
   | false =>
    go_wp2
    go_ret
    exact ⟨by rw [← unhide HE]; rfl,hB2⟩
  ·rw [if_pos h2] at hR
   have HE:=hide hR
   have h2':((ln:Int) != (ln':Int))=true:=by simp; omega
   clear hR h2
   go_enter Tryz.func84,Tryz.ntmps84
   go_wp2
   go_ret
   exact ⟨by rw [← unhide HE]; rfl,hB0⟩
 ·rw [if_pos h1] at hR
  have HE:=hide hR
  have h1':((sn:Int) != (sn':Int))=true:=by simp; omega
  clear hR h1
  go_enter Tryz.func84,Tryz.ntmps84
  go_wp2
  go_ret
  exact ⟨by rw [← unhide HE]; rfl,hB0⟩
end Go.Proofs.YteffpdofcgbokaaGreat

/-
  The walks over the document's jumps, goes, mapAt, Start.
-/
namespace Go.Proofs.YteffpdofcgbokaaGreat
open Go.RowKit

def Ck.jumps (op:Int):Bool:=decide (op=11∨op=12∨op=13∨op=14)
def Ck.goes (op:Int):Bool:=decide (¬ (op=11∨op=22∨op=23))

set_option maxRecDepth 100000 in
set_option maxHeartbeats 2000000 in
theorem rjumps_any (op:Int) (w:World):Calls Tryz.prog 130 #[.int .i64 op] w fun e w'=>e=.returned (.bool (Ck.jumps op))∧Below w.heap.size w w':=by
 unfold Ck.jumps
 by_cases h:op=11∨op=12∨op=13∨op=14
 ·rcases h with rfl | rfl | rfl | rfl
  all_goals
   go_enter Tryz.func130,Tryz.ntmps130
   go_wp2
   go_ret
   exact ⟨rfl,Below.refl _ _⟩
 ·have h1:(op == 11)=false:=by simp; omega
  have h2:(op == 12)=false:=by simp; omega
  have h3:(op == 13)=false:=by simp; omega
  have h4:(op == 14)=false:=by simp; omega
  have hd:decide (op=11∨op=12∨op=13∨op=14)=false:=by simpa using h
  rw [hd]
  clear h hd
  go_enter Tryz.func130,Tryz.ntmps130
  go_wp2
  go_ret
  exact ⟨rfl,Below.refl _ _⟩

set_option maxRecDepth 100000 in
set_option maxHeartbeats 2000000 in
theorem rgoes_any (op:Int) (w:World):Calls Tryz.prog 128 #[.int .i64 op] w fun e w'=>e=.returned (.bool (Ck.goes op))∧Below w.heap.size w w':=by
 unfold Ck.goes
 by_cases h:op=11∨op=22∨op=23
 ·rcases h with rfl | rfl | rfl
  all_goals
   go_enter Tryz.func128,Tryz.ntmps128
   go_wp2
   go_ret
   exact ⟨rfl,Below.refl _ _⟩
 ·have h1:(op != 11)=true:=by simp; omega
  have h2:(op != 22)=true:=by simp; omega
  have h3:(op != 23)=true:=by simp; omega
  have hd:decide (¬ (op=11∨op=22∨op=23))=true:=by simpa using h
  rw [hd]
  clear h hd
  go_enter Tryz.func128,Tryz.ntmps128
  go_wp2
  go_ret
  exact ⟨rfl,Below.refl _ _⟩

/-- the map at a place -/
def Ck.mapAt (p:Int):List Rd.Mp→Option Ck.Fr
 | []=>none
 | m :: r=>if m.place=p then some ⟨m.locals,m.stack⟩ else Ck.mapAt p r
def Ck.orNone (x:Option Ck.Fr):Ck.Fr:=x.getD ⟨[],[]⟩

set_option maxRecDepth 100000 in
set_option maxHeartbeats 8000000 in
theorem rmapAt_any (m:RMV) (lm:List (Rd.Mp × Value × Value)) (bb:Nat) (p:Int) (w:World) (hml:m.ml=lm.length) (hm4:lm.length≤1000) (hfr:∀ q∈lm,q.1.locals.length≤5000∧q.1.stack.length≤5000) (hh:RMpsIn w bb (.slice m.ma m.ml m.mc) lm) :
  Calls Tryz.prog 83 #[m.val,.int .i64 p] w fun e w'=>∃ v:FrV,e=.returned (.tuple #[v.val,.bool (Ck.mapAt p (lm.map Prod.fst)).isSome])∧v.is (Ck.orNone (Ck.mapAt p (lm.map Prod.fst))) w'∧Below w.heap.size w w':=by
 generalize hr:Ck.mapAt p (lm.map Prod.fst)=r
 have HR:Hid (Ck.mapAt p ((lm.map Prod.fst).drop 0)=r):=hr
 obtain ⟨cl,nm,pa,pl,pc,r1,r2,lo,st,code,ha,hl,hc,ma,ml,mc,mAt,fin⟩:=m
 simp only [RMV.val] at hml hh ⊢
 subst hml
 have HMP:Hid (∀ w',Below w.heap.size w w'→RMpsIn w' bb (.slice ma lm.length mc) lm):=fun w' h=>hh.kp (Kp.of_below (e:=none) h) (by decide) (by decide)
 clear hr hh
 have hB0:=below2 w (.cells #[.int .i64 cl,.int .i64 nm,.slice pa pl pc,.int .i64 r1,.int .i64 r2,.int .i64 lo,.int .i64 st,.string code,.slice ha hl hc,.slice ma lm.length mc,.int .i64 mAt,.int .i64 fin] 52) (.cells #[.slice none 0 0,.slice none 0 0] 75)
 have C0:=alloc1_blk w (.cells #[.int .i64 cl,.int .i64 nm,.slice pa pl pc,.int .i64 r1,.int .i64 r2,.int .i64 lo,.int .i64 st,.string code,.slice ha hl hc,.slice ma lm.length mc,.int .i64 mAt,.int .i64 fin] 52) (.cells #[.slice none 0 0,.slice none 0 0] 75)
 have D0:=alloc2_blk w (.cells #[.int .i64 cl,.int .i64 nm,.slice pa pl pc,.int .i64 r1,.int .i64 r2,.int .i64 lo,.int .i64 st,.string code,.slice ha hl hc,.slice ma lm.length mc,.int .i64 mAt,.int .i64 fin] 52) (.cells #[.slice none 0 0,.slice none 0 0] 75)
 go_enter Tryz.func83,Tryz.ntmps83
 go_wp2
 go_loopw [6] (fun i wr=>∃ q:Nat,q≤lm.length∧i=.int .i64 (q:Int)∧Hid (Ck.mapAt p ((lm.map Prod.fst).drop q)=r)∧wr=(w.alloc (.cells #[.int .i64 cl,.int .i64 nm,.slice pa pl pc,.int .i64 r1,.int .i64 r2,.int .i64 lo,.int .i64 st,.string code,.slice ha hl hc,.slice ma lm.length mc,.int .i64 mAt,.int .i64 fin] 52)).alloc (.cells #[.slice none 0 0,.slice none 0 0] 75))
  (fun i _=>lm.length - (intOf i).toNat)
 case atStart=>exact ⟨0,by omega,rfl,HR,rfl⟩
 case round =>
  clear HR
  obtain ⟨q,hq,rfl,HR,rfl⟩:=hrel
  by_cases hkn:q < lm.length
  ·have hmr:=unhide HMP _ hB0
   obtain ⟨g,hg,hglt,_,hcell⟩:=own_some hmr.1 (by omega)
   have y0:=(hcell _ (mcells_at lm q hkn 0 (by omega)).2).trans (mcells_at lm q hkn 0 (by omega)).1
   have y1:=(hcell _ (mcells_at lm q hkn 1 (by omega)).2).trans (mcells_at lm q hkn 1 (by omega)).1
   have y2:=(hcell _ (mcells_at lm q hkn 2 (by omega)).2).trans (mcells_at lm q hkn 2 (by omega)).1
   have hty:=(unhide HMP _ (Below.refl _ _)).2 _ (List.getElem_mem hkn)
   have hlf:=hfr _ (List.getElem_mem hkn)
   have hd:(lm.map Prod.fst).drop q=lm[q].1 :: (lm.map Prod.fst).drop (q+1):=by
    rw [List.drop_eq_getElem_cons (by simpa using hkn)]
    simp
   have hr:=unhide HR
   rw [hd,Ck.mapAt] at hr
   generalize lm[q]=t at *
   obtain ⟨⟨pl',lo',st'⟩,u1,u2⟩:=t
   simp at y0 y1 y2
   simp only at hty hr hlf
   obtain ⟨ty1,ty2⟩:=hty
   obtain ⟨a1,c1,rfl⟩:=own_shape ty1
   obtain ⟨a2,c2,rfl⟩:=own_shape ty2
   have kb:(q:Int) < (lm.length:Int):=by omega
   clear hcell hd HR hmr
   subst hg
   by_cases he:pl'=p
   ·subst he
    rw [if_pos rfl] at hr
    have HE:=hide hr
    have his:FrV.is ⟨a1,lo'.length,c1,a2,st'.length,c2⟩ ⟨lo',st'⟩ ((w.alloc (.cells #[.int .i64 cl,.int .i64 nm,.slice pa pl pc,.int .i64 r1,.int .i64 r2,.int .i64 lo,.int .i64 st,.string code,.slice ha hl hc,.slice (some ⟨g,0,none⟩) lm.length mc,.int .i64 mAt,.int .i64 fin] 52)).alloc (.cells #[.slice a1 lo'.length c1,.slice a2 st'.length c2] 75)) :=
     ⟨(TyR.of_tys ty1).below (below2 _ _ _),(TyR.of_tys ty2).below (below2 _ _ _),hlf.1,hlf.2⟩
    clear hr ty1 ty2
    go_wp2_with fail
    refine bodyPost_ret (v:=.tuple #[.agg #[.slice a1 lo'.length c1,.slice a2 st'.length c2],.bool true]) (by simp [results,Tryz.results83,go_sem]) rfl ?_
    refine ⟨⟨a1,lo'.length,c1,a2,st'.length,c2⟩,?_,?_,below2 _ _ _⟩
    ·rw [← unhide HE]; rfl
    ·rw [← unhide HE]; exact his
   ·rw [if_neg he] at hr
    have HG:=hide hr
    have he':(pl' == p)=false:=by simpa using he
    clear hr he ty1 ty2
    go_wp2
    go_roundw
    case rel=>exact ⟨q+1,by omega,by go_num,HG,trivial⟩
    case measure=>simp [intOf]; omega
  ·have HE:Hid (none=r):=by unfold Hid; rw [← unhide HR,List.drop_eq_nil_of_le (by simp; omega)]; rfl
   have kb:¬ (q:Int) < (lm.length:Int):=by omega
   clear HR
   go_wp2_with fail
   refine bodyPost_ret (v:=.tuple #[.agg #[.slice none 0 0,.slice none 0 0],.bool false]) (by simp [results,Tryz.results83,go_sem]) rfl ?_
   refine ⟨⟨none,0,0,none,0,0⟩,?_,?_,below2 _ _ _⟩
   ·rw [← unhide HE]; rfl
   ·rw [← unhide HE]; exact ⟨TyR.nil _,TyR.nil _,Nat.zero_le _,Nat.zero_le _⟩

/-- the locals that a method begins with -/
def Ck.own (cl:Int) (ps:List (Int × Int)):List (Int × Int):=(if cl=255 then [] else [(3,cl)]) ++ ps
def Ck.start (cl:Int) (ps:List (Int × Int)) (lo:Nat):Ck.Fr:=⟨Ck.own cl ps ++ List.replicate (lo - (Ck.own cl ps).length) (0,0),[]⟩

set_option maxRecDepth 100000 in
set_option maxHeartbeats 8000000 in
theorem rstart_any (m:RMV) (ps:List (Int × Int)) (lo':Nat) (w:World) (hlo:m.lo=(lo':Int)) (hl8:lo'≤1000) (hps:TyR w (.slice m.pa m.pl m.pc) ps) (hp8:ps.length≤1000) :
  Calls Tryz.prog 85 #[m.val] w fun e w'=>∃ v:FrV,e=.returned v.val∧v.is (Ck.start m.cl ps lo') w'∧Below w.heap.size w w':=by
 obtain ⟨i0,hi,hz0,hz1,hz2⟩:=info_parts Tryz.infoType
 obtain ⟨cl,nm,pa,pl,pc,r1,r2,lo,st,code,ha,hl,hc,ma,ml,mc,mAt,fin⟩:=m
 simp only [RMV.val] at hlo hps ⊢
 subst hlo
 have hRR:=fun w=>rref_any cl w
 have HRR:=hide hRR
 clear hRR
 have hB0:=below2 w (.cells #[.int .i64 cl,.int .i64 nm,.slice pa pl pc,.int .i64 r1,.int .i64 r2,.int .i64 (lo':Int),.int .i64 st,.string code,.slice ha hl hc,.slice ma ml mc,.int .i64 mAt,.int .i64 fin] 52) (.cells #[.slice none 0 0,.slice none 0 0] 75)
 have C0:=alloc1_blk w (.cells #[.int .i64 cl,.int .i64 nm,.slice pa pl pc,.int .i64 r1,.int .i64 r2,.int .i64 (lo':Int),.int .i64 st,.string code,.slice ha hl hc,.slice ma ml mc,.int .i64 mAt,.int .i64 fin] 52) (.cells #[.slice none 0 0,.slice none 0 0] 75)
 have D0:=alloc2_blk w (.cells #[.int .i64 cl,.int .i64 nm,.slice pa pl pc,.int .i64 r1,.int .i64 r2,.int .i64 (lo':Int),.int .i64 st,.string code,.slice ha hl hc,.slice ma ml mc,.int .i64 mAt,.int .i64 fin] 52) (.cells #[.slice none 0 0,.slice none 0 0] 75)
 unfold Ck.start
 generalize hO:Ck.own cl ps=O
 unfold Ck.own at hO
 -- what follows the head, for either head
 by_cases h1:cl=255
 ·subst h1
  rw [if_pos rfl,List.nil_append] at hO
  subst hO
  go_enter Tryz.func85,Tryz.ntmps85
  go_wp2_with (at_builtin; refine append_tyr rfl _ _ rfl (w.heap.size+1+1) _ [] ps pa pl pc rfl (World.ownsRow_nil _ _ _ _) rfl (hps.below hB0) (by simp; omega) (by simp) ?_)
  intro v' w1 hown1 hgrow
  have hB1:=hB0.grown hgrow (by simp; omega) (fun j hj=>by simp [Value.ownBlock] at hj)
  have C1:=(hgrow.block _ (lt_of_block C0) (by simp [Value.ownBlock])).trans C0
  have D1:=(hgrow.block _ (lt_of_block D0) (by simp [Value.ownBlock])).trans D0
  clear hgrow C0 D0 hB0
  have hs1:=hB1.size
  have hown1':w1.ownsRow (w.heap.size+1+1) 48 2 v' (ps ++ List.replicate 0 ((0:Int),(0:Int))).length (tcells (ps ++ List.replicate 0 ((0:Int),(0:Int)))):=by simpa using hown1
  go_wp2
  go_loopw [3] (fun v wr=>∃ q:Nat,q≤lo' - ps.length∧wr.ownsRow (w.heap.size+1+1) 48 2 v (ps.length+q) (tcells (ps ++ List.replicate q ((0:Int),(0:Int))))∧Below w.heap.size w wr∧wr.heap[w.heap.size]?=some (.cells #[.int .i64 255,.int .i64 nm,.slice pa pl pc,.int .i64 r1,.int .i64 r2,.int .i64 (lo':Int),.int .i64 st,.string code,.slice ha hl hc,.slice ma ml mc,.int .i64 mAt,.int .i64 fin] 52 (0,0))∧wr.heap[w.heap.size+1]?=some (.cells #[.slice none 0 0,.slice none 0 0] 75 (0,0)))
   (fun v _=>lo' - lenOf v)
  case atStart=>exact ⟨0,by omega,by simpa using hown1',hB1,C1,D1⟩
  case round =>
   clear hown1 hown1' hB1 C1 D1 hs1
   obtain ⟨q,hq,hown,hB,hC,hD⟩:=hrel
   have hBs:=hB.size
   have lC:=lt_of_block hC
   have lD:=lt_of_block hD
   obtain ⟨ua,uc,rfl⟩:=own_shape hown
   have x5:=blk_cell hC 5
   simp at x5
   by_cases hkn:ps.length+q < lo'
   ·have kb:((ps.length+q:Nat):Int) < (lo':Int):=by omega
    have HD:Hid (ps ++ List.replicate (q+1) ((0:Int),(0:Int))=ps ++ List.replicate q ((0:Int),(0:Int)) ++ [((0:Int),(0:Int))]):=by unfold Hid; rw [List.replicate_succ',List.append_assoc]
    go_wp2_with (at_builtin; refine wpList_append_own _ rfl _ _ 46 rfl (w.heap.size+1+1) 48 i0 _ 2 16 Tryz.underlying46 hi hz0 hz1 hz2 rfl (by decide) _ _ _ rfl (hown.alloc _) ⟨wr.heap.size,0,none⟩ 1 1 [.int .i64 0,.int .i64 0] rfl rfl ?c1 ?c2 ?c3 ?c4 ?c5 ?_)
    case c1=>exact cells_new _ _ _ _ rfl
    case c2=>intro u hu; simp at hu; subst hu; rfl
    case c3=>unfold maxLen; omega
    case c4=>omega
    case c5=>simp; omega
    intro v2 w2 hown2 hgrow2 _
    have hB2:=(hB.alloc hBs (.cells #[.int .i64 0,.int .i64 0] 48)).grown hgrow2 (by simp; omega) (fun j hj=>by have:=(hown.lt j hj).1; omega)
    have C2:=(hgrow2.block _ (lt_of_block (stay1 hC (.cells #[.int .i64 0,.int .i64 0] 48))) (fun hh=>by have:=(hown.lt _ hh.symm).1; omega)).trans (stay1 hC (.cells #[.int .i64 0,.int .i64 0] 48))
    have D2:=(hgrow2.block _ (lt_of_block (stay1 hD (.cells #[.int .i64 0,.int .i64 0] 48))) (fun hh=>by have:=(hown.lt _ hh.symm).1; omega)).trans (stay1 hD (.cells #[.int .i64 0,.int .i64 0] 48))
    obtain ⟨ua2,uc2,rfl⟩:=own_shape hown2
    have hown3:w2.ownsRow (w.heap.size+1+1) 48 2 (.slice ua2 (ps.length+q+1) uc2) (ps.length+(q+1)) (tcells (ps ++ List.replicate (q+1) ((0:Int),(0:Int)))):=by rw [unhide HD,tcells_app]; exact hown2
    clear hgrow2 hown hown2 hB hC hD x5
    go_wp2
    go_roundw
    case rel=>exact ⟨q+1,by omega,hown3,hB2,C2,D2⟩
    case measure=>simp [lenOf]; omega
   ·have kb:¬ ((ps.length+q:Nat):Int) < (lo':Int):=by omega
    have eq:lo' - ps.length=q:=by omega
    have z0:=blk_cell hD 0
    have z1:=blk_cell hD 1
    have q0:=blk_free hD 0
    have q1:=blk_free hD 1
    simp at z0 z1
    have hk1:=(Kp.set_lo (e:=none) (b:=w.heap.size+1+1) (i:=0) (g:=w.heap.size+1) (w:=wr) (by omega) (.slice ua (ps.length+q) uc)).trans (Kp.set_lo (i:=1) (g:=w.heap.size+1) (by omega) (.slice none 0 0))
    have hown3:=own_kp hown hk1 (by decide)
    have HEQ:=hide eq
    clear eq
    go_wp2_with fail
    refine bodyPost_ret (v:=.agg #[.slice ua (ps.length+q) uc,.slice none 0 0]) (by simp [results,Tryz.results85,go_sem,z0,z1]) rfl ?_
    refine ⟨⟨ua,ps.length+q,uc,none,0,0⟩,rfl,⟨?_,TyR.nil _,?_,Nat.zero_le _⟩,(hB.setCell (by simp) _).setCell (by simp) _⟩
    ·rw [unhide HEQ]
     exact own_tyr hown3 (by simp)
    ·rw [unhide HEQ]
     simp
     omega
 ·have h1':(cl != 255)=true:=by simpa using h1
  rw [if_neg h1] at hO
  clear h1
  go_enter Tryz.func85,Tryz.ntmps85
  go_wp2_with fail
  refine (unhide HRR _).mono ?_
  rintro e w0 ⟨rfl,hb0⟩
  have hB0':=hB0.trans (hb0.mono hB0.size)
  have C0':=stay hb0 C0
  have D0':=stay hb0 D0
  have hs0:=hB0'.size
  have ls0:=lt_of_block D0'
  have x2:=blk_cell C0' 2
  have lC0:=lt_of_block C0'
  simp at x2
  go_wp2_with (at_builtin; refine wpList_append_own _ rfl _ _ 46 rfl (w.heap.size+1+1) 48 i0 _ 2 16 Tryz.underlying46 hi hz0 hz1 hz2 rfl (by decide) _ _ _ rfl (World.ownsRow_nil _ _ _ _) ⟨w0.heap.size,0,none⟩ 1 1 [.int .i64 3,.int .i64 cl] rfl rfl ?c1 ?c2 ?c3 ?c4 ?c5 ?_)
  case c1=>exact cells_new _ _ _ _ rfl
  case c2=>intro u hu; simp at hu; rcases hu with rfl | rfl <;> rfl
  case c3=>unfold maxLen; omega
  case c4=>omega
  case c5=>simp; omega
  intro v0 w00 hown0 hgrow0 _
  have hB00:=(hB0'.alloc hs0 (.cells #[.int .i64 3,.int .i64 cl] 48)).grown hgrow0 (by simp; omega) (fun j hj=>by simp [Value.ownBlock] at hj)
  have C00:=(hgrow0.block _ (lt_of_block (stay1 C0' (.cells #[.int .i64 3,.int .i64 cl] 48))) (by simp [Value.ownBlock])).trans (stay1 C0' (.cells #[.int .i64 3,.int .i64 cl] 48))
  have D00:=(hgrow0.block _ (lt_of_block (stay1 D0' (.cells #[.int .i64 3,.int .i64 cl] 48))) (by simp [Value.ownBlock])).trans (stay1 D0' (.cells #[.int .i64 3,.int .i64 cl] 48))
  have hown0':w00.ownsRow (w.heap.size+1+1) 48 2 v0 ([((3:Int),cl)]:List (Int × Int)).length (tcells [((3:Int),cl)]):=by simpa [tcells] using hown0
  have hs00:=hB00.size
  have ls00:=lt_of_block D00
  have lC00:=lt_of_block C00
  have x2':=blk_cell C00 2
  simp at x2'
  clear hgrow0 hown0 C0 D0 hB0 hb0 C0' D0' hB0' x2
  go_wp2_with (at_builtin; refine append_tyr rfl _ _ rfl (w.heap.size+1+1) _ [(3,cl)] ps pa pl pc rfl hown0' rfl (hps.below hB00) (by simp; omega) (by omega) ?_)
  intro v' w1 hown1 hgrow
  have hB1:=hB00.grown hgrow (by omega) (fun j hj=>by have:=(hown0'.lt j hj).1; omega)
  have C1:=(hgrow.block _ (lt_of_block C00) (fun hh=>by have:=(hown0'.lt _ hh.symm).1; omega)).trans C00
  have D1:=(hgrow.block _ (lt_of_block D00) (fun hh=>by have:=(hown0'.lt _ hh.symm).1; omega)).trans D00
  have hOl:([((3:Int),cl)] ++ ps).length≤1001:=by simp; omega
  have hown1':w1.ownsRow (w.heap.size+1+1) 48 2 v' O.length (tcells O):=hown1
  rw [hO] at hOl
  have HOL:=hOl
  clear hgrow C00 D00 hB00 hown0' hown1 hO x2'
  have hs1:=hB1.size
  go_wp2
  go_loopw [3] (fun v wr=>∃ q:Nat,q≤lo' - O.length∧wr.ownsRow (w.heap.size+1+1) 48 2 v (O.length+q) (tcells (O ++ List.replicate q ((0:Int),(0:Int))))∧Below w.heap.size w wr∧wr.heap[w.heap.size]?=some (.cells #[.int .i64 cl,.int .i64 nm,.slice pa pl pc,.int .i64 r1,.int .i64 r2,.int .i64 (lo':Int),.int .i64 st,.string code,.slice ha hl hc,.slice ma ml mc,.int .i64 mAt,.int .i64 fin] 52 (0,0))∧wr.heap[w.heap.size+1]?=some (.cells #[.slice none 0 0,.slice none 0 0] 75 (0,0)))
   (fun v _=>lo' - lenOf v)
  case atStart=>exact ⟨0,by omega,by simpa using hown1',hB1,C1,D1⟩
  case round =>
   clear hown1' hB1 C1 D1 hs1
   obtain ⟨q,hq,hown,hB,hC,hD⟩:=hrel
   have hBs:=hB.size
   have lC:=lt_of_block hC
   have lD:=lt_of_block hD
   obtain ⟨ua,uc,rfl⟩:=own_shape hown
   have x5:=blk_cell hC 5
   simp at x5
   by_cases hkn:O.length+q < lo'
   ·have kb:((O.length+q:Nat):Int) < (lo':Int):=by omega
    have HD:Hid (O ++ List.replicate (q+1) ((0:Int),(0:Int))=O ++ List.replicate q ((0:Int),(0:Int)) ++ [((0:Int),(0:Int))]):=by unfold Hid; rw [List.replicate_succ',List.append_assoc]
    go_wp2_with (at_builtin; refine wpList_append_own _ rfl _ _ 46 rfl (w.heap.size+1+1) 48 i0 _ 2 16 Tryz.underlying46 hi hz0 hz1 hz2 rfl (by decide) _ _ _ rfl (hown.alloc _) ⟨wr.heap.size,0,none⟩ 1 1 [.int .i64 0,.int .i64 0] rfl rfl ?c1 ?c2 ?c3 ?c4 ?c5 ?_)
    case c1=>exact cells_new _ _ _ _ rfl
    case c2=>intro u hu; simp at hu; subst hu; rfl
    case c3=>unfold maxLen; omega
    case c4=>omega
    case c5=>simp; omega
    intro v2 w2 hown2 hgrow2 _
    have hB2:=(hB.alloc hBs (.cells #[.int .i64 0,.int .i64 0] 48)).grown hgrow2 (by simp; omega) (fun j hj=>by have:=(hown.lt j hj).1; omega)
    have C2:=(hgrow2.block _ (lt_of_block (stay1 hC (.cells #[.int .i64 0,.int .i64 0] 48))) (fun hh=>by have:=(hown.lt _ hh.symm).1; omega)).trans (stay1 hC (.cells #[.int .i64 0,.int .i64 0] 48))
    have D2:=(hgrow2.block _ (lt_of_block (stay1 hD (.cells #[.int .i64 0,.int .i64 0] 48))) (fun hh=>by have:=(hown.lt _ hh.symm).1; omega)).trans (stay1 hD (.cells #[.int .i64 0,.int .i64 0] 48))
    obtain ⟨ua2,uc2,rfl⟩:=own_shape hown2
    have hown3:w2.ownsRow (w.heap.size+1+1) 48 2 (.slice ua2 (O.length+q+1) uc2) (O.length+(q+1)) (tcells (O ++ List.replicate (q+1) ((0:Int),(0:Int)))):=by rw [unhide HD,tcells_app]; exact hown2
    clear hgrow2 hown hown2 hB hC hD x5
    go_wp2
    go_roundw
    case rel=>exact ⟨q+1,by omega,hown3,hB2,C2,D2⟩
    case measure=>simp [lenOf]; omega
   ·have kb:¬ ((O.length+q:Nat):Int) < (lo':Int):=by omega
    have eq:lo' - O.length=q:=by omega
    have z0:=blk_cell hD 0
    have z1:=blk_cell hD 1
    have q0:=blk_free hD 0
    have q1:=blk_free hD 1
    simp at z0 z1
    have hk1:=(Kp.set_lo (e:=none) (b:=w.heap.size+1+1) (i:=0) (g:=w.heap.size+1) (w:=wr) (by omega) (.slice ua (O.length+q) uc)).trans (Kp.set_lo (i:=1) (g:=w.heap.size+1) (by omega) (.slice none 0 0))
    have hown3:=own_kp hown hk1 (by decide)
    have HEQ:=hide eq
    clear eq
    go_wp2_with fail
    refine bodyPost_ret (v:=.agg #[.slice ua (O.length+q) uc,.slice none 0 0]) (by simp [results,Tryz.results85,go_sem,z0,z1]) rfl ?_
    refine ⟨⟨ua,O.length+q,uc,none,0,0⟩,rfl,⟨?_,TyR.nil _,?_,Nat.zero_le _⟩,(hB.setCell (by simp) _).setCell (by simp) _⟩
    ·rw [unhide HEQ]
     exact own_tyr hown3 (by simp)
    ·rw [unhide HEQ]
     simp
     omega
end Go.Proofs.YteffpdofcgbokaaGreat

/-
  The walks over the document's takes and leaves.
-/
namespace Go.Proofs.YteffpdofcgbokaaGreat
open Go.RowKit

abbrev Ck.noM:Rf.Mth × RMthV:=⟨⟨⟨0,0,[],(0,0),0,0,[],[],[]⟩,0,0⟩,⟨.slice none 0 0,⟨#[]⟩,.slice none 0 0,.slice none 0 0⟩⟩
/-- what an instruction asks for, where it does not hang on the frame; F: the fields, ms: the methods, res: what the method gives back -/
def Ck.takes (F:List Rf.Fld) (ms:List Rd.Mth) (res:Int × Int) (op n:Int):List (Int × Int) :=
 if op=7∨op=8∨op=9∨op=10∨op=13 then [(1,0),(1,0)] else if op=12∨op=25 then [(1,0)] else if op=14∨op=19 then [(3,0)]
 else if op=17 then [(3,(F.getD n.toNat ⟨0,0,(0,0)⟩).owner)] else if op=18 then [(3,(F.getD n.toNat ⟨0,0,(0,0)⟩).owner),(F.getD n.toNat ⟨0,0,(0,0)⟩).t]
 else if op=20 then (ms.getD n.toNat ⟨0,0,[],(0,0),0,0,[],[],[]⟩).params else if op=21 then (3,(ms.getD n.toNat ⟨0,0,[],(0,0),0,0,[],[],[]⟩).cl) :: (ms.getD n.toNat ⟨0,0,[],(0,0),0,0,[],[],[]⟩).params
 else if op=22 then Ck.gives res else if op=23 then [(3,1)] else []
def Ck.leaves (F:List Rf.Fld) (ms:List Rd.Mth) (op n:Int):List (Int × Int) :=
 if op=0∨op=7∨op=8∨op=9∨op=10∨op=24 then [(1,0)] else if op=1 then [(2,0)] else if op=17 then [(F.getD n.toNat ⟨0,0,(0,0)⟩).t]
 else if op=19 then [(3,n)] else if op=20∨op=21 then Ck.gives (ms.getD n.toNat ⟨0,0,[],(0,0),0,0,[],[],[]⟩).result else []
theorem fcells_at (l:List Rf.Fld) (k:Nat) (hk:k < l.length) (j:Nat) (hj:j < 4):(fcells l)[k * 4+j]?=[Value.int .i64 l[k].owner,.int .i64 l[k].slot,.int .i64 l[k].t.1,.int .i64 l[k].t.2][j]?∧k * 4+j < (fcells l).length:=by
 refine ⟨chunk_at (fun x:Rf.Fld=>[Value.int .i64 x.owner,.int .i64 x.slot,.int .i64 x.t.1,.int .i64 x.t.2]) 4 (fun _=>rfl) l k hk j hj,?_⟩
 unfold fcells
 rw [chunk_len (fun x:Rf.Fld=>[Value.int .i64 x.owner,.int .i64 x.slot,.int .i64 x.t.1,.int .i64 x.t.2]) 4 (fun _=>rfl) l]
 omega
theorem mdl_at (ms:List (Rf.Mth × RMthV)) (q:Nat):(ms.map fun x=>x.1.m).getD q ⟨0,0,[],(0,0),0,0,[],[],[]⟩=(ms.getD q Ck.noM).1.m:=by
 simp only [List.getD_eq_getElem?_getD,List.getElem?_map]
 cases ms[q]? <;> rfl

set_option maxRecDepth 100000 in
set_option maxHeartbeats 40000000 in
theorem rtakes_any (f:RFl) (m:RMV) (p:Nat) (w:World) (hf:f.ok w) (hp:p < m.code.size) (hs:m.code.size≤100000) (hpl:∀ x∈f.ms,x.1.m.params.length≤1000)
  (hN1:(nums m.code).getD p 0=17∨(nums m.code).getD p 0=18→0≤Rf.at' m.code.data.toList ((p:Int)+1)∧Rf.at' m.code.data.toList ((p:Int)+1) < (f.fields.length:Int))
  (hN2:(nums m.code).getD p 0=20∨(nums m.code).getD p 0=21→0≤Rf.at' m.code.data.toList ((p:Int)+1)∧Rf.at' m.code.data.toList ((p:Int)+1) < (f.ms.length:Int)) :
  Calls Tryz.prog 189 #[f.val,m.val,.int .i64 (p:Int)] w fun e w' =>
   ∃ a c,e=.returned (.slice a (Ck.takes f.fields (f.ms.map fun x=>x.1.m) (m.r1,m.r2) ((nums m.code).getD p 0) (Rf.at' m.code.data.toList ((p:Int)+1))).length c) ∧
    TyR w' (.slice a (Ck.takes f.fields (f.ms.map fun x=>x.1.m) (m.r1,m.r2) ((nums m.code).getD p 0) (Rf.at' m.code.data.toList ((p:Int)+1))).length c) (Ck.takes f.fields (f.ms.map fun x=>x.1.m) (m.r1,m.r2) ((nums m.code).getD p 0) (Rf.at' m.code.data.toList ((p:Int)+1)))∧Below w.heap.size w w':=by
 rw [nums_at _ _ hp] at hN1 hN2 ⊢
 have hAr:=fun w=>rArg_any m p w hp hs
 have hGi:=fun w=>rgives_any m w
 have hFi:=fun w (h:f.ok w)=>rfields_any f.a1 f.a2 f.c1 f.ms.length f.c2 f.bb f.l w h.1 h.2.1 h.2.2.2.1 h.2.2.2.2.1
 have hF0:=hf
 obtain ⟨fa1,fc1,fa2,fc2,bb,l,ms⟩:=f
 obtain ⟨cl,nm,pa,pl,pc,r1,r2,lo,st,code,ha,hl,hc,ma,ml,mc,mAt,fin⟩:=m
 simp only [RMV.val,RFl.val] at hp hs hAr hFi hGi hN1 hN2 hpl ⊢
 have hfe:(RFl.mk fa1 fc1 fa2 fc2 bb l ms).fields=Rf.fieldsTo (supers l) (l.map Prod.fst) (l.length - 7):=rfl
 rw [← hfe] at hFi
 generalize (RFl.mk fa1 fc1 fa2 fc2 bb l ms).fields=flds at *
 generalize Rf.at' code.data.toList ((p:Int)+1)=n at *
 generalize hres:Ck.takes flds (ms.map fun x=>x.1.m) (r1,r2) (code[p].toNat:Int) n=R
 have hp':(p:Int) < (code.size:Int):=by omega
 have hwb:∀ c:UInt8,IntKind.i64.wrap (c.toNat:Int)=(c.toNat:Int):=fun c=>wrap_in _ (by omega) (by have:=c.toNat_lt; omega)
 have HAr:=hide hAr
 have HGi:=hide hGi
 have HFi:=hide hFi
 have HF0:=hide hF0
 have HN1:=hide hN1
 have HN2:=hide hN2
 have HPL:=hide hpl
 clear hAr hGi hFi hF0 hf hN1 hN2 hpl hfe
 by_cases hop:(code[p].toNat:Int)=7
 ·have HR:Hid (R=[(1,0),(1,0)]):=by unfold Hid; rw [← hres]; unfold Ck.takes; rw [hop]; simp
  clear hres
  go_enter Tryz.func189,Tryz.ntmps189
  go_wp2_with fail
  refine (unhide HAr _).mono ?_
  rintro e w1 ⟨rfl,hb1⟩
  have hB1:=(below2 w _ _).trans (hb1.mono (by simp; omega))
  have CF:=stay hb1 (alloc1_blk w _ _)
  have CM:=stay hb1 (alloc2_blk w _ _)
  have m0:=blk_cell CM 0
  have m1:=blk_cell CM 1
  have m2:=blk_cell CM 2
  have m3:=blk_cell CM 3
  have m4:=blk_cell CM 4
  have m5:=blk_cell CM 5
  have m6:=blk_cell CM 6
  have m7:=blk_cell CM 7
  have m8:=blk_cell CM 8
  have m9:=blk_cell CM 9
  have m10:=blk_cell CM 10
  have m11:=blk_cell CM 11
  have f0:=blk_cell CF 0
  have f1:=blk_cell CF 1
  simp at f0 f1 m0 m1 m2 m3 m4 m5 m6 m7 m8 m9 m10 m11
  have lF:=lt_of_block CF
  have lM:=lt_of_block CM
  have hs1:=hB1.size
  clear hb1
  have hn:=TyR.new2 w1 1 0 1 0
  go_wp2
  go_ret
  obtain rfl:=unhide HR
  exact ⟨_,_,rfl,hn,hB1.alloc hs1 _⟩
 have n7:((code[p].toNat:Int) == 7)=false:=by simp; omega
 have i7:=hop
 clear hop
 by_cases hop:(code[p].toNat:Int)=8
 ·have HR:Hid (R=[(1,0),(1,0)]):=by unfold Hid; rw [← hres]; unfold Ck.takes; rw [hop]; simp
  clear hres
  go_enter Tryz.func189,Tryz.ntmps189
  go_wp2_with fail
  refine (unhide HAr _).mono ?_
  rintro e w1 ⟨rfl,hb1⟩
  have hB1:=(below2 w _ _).trans (hb1.mono (by simp; omega))
  have CF:=stay hb1 (alloc1_blk w _ _)
  have CM:=stay hb1 (alloc2_blk w _ _)
  have m0:=blk_cell CM 0
  have m1:=blk_cell CM 1
  have m2:=blk_cell CM 2
  have m3:=blk_cell CM 3
  have m4:=blk_cell CM 4
  have m5:=blk_cell CM 5
  have m6:=blk_cell CM 6
  have m7:=blk_cell CM 7
  have m8:=blk_cell CM 8
  have m9:=blk_cell CM 9
  have m10:=blk_cell CM 10
  have m11:=blk_cell CM 11
  have f0:=blk_cell CF 0
  have f1:=blk_cell CF 1
  simp at f0 f1 m0 m1 m2 m3 m4 m5 m6 m7 m8 m9 m10 m11
  have lF:=lt_of_block CF
  have lM:=lt_of_block CM
  have hs1:=hB1.size
  clear hb1
  have hn:=TyR.new2 w1 1 0 1 0
  go_wp2
  go_ret
  obtain rfl:=unhide HR
  exact ⟨_,_,rfl,hn,hB1.alloc hs1 _⟩
 have n8:((code[p].toNat:Int) == 8)=false:=by simp; omega
 have i8:=hop
 clear hop
 by_cases hop:(code[p].toNat:Int)=9
 ·have HR:Hid (R=[(1,0),(1,0)]):=by unfold Hid; rw [← hres]; unfold Ck.takes; rw [hop]; simp
  clear hres
  go_enter Tryz.func189,Tryz.ntmps189
  go_wp2_with fail
  refine (unhide HAr _).mono ?_
  rintro e w1 ⟨rfl,hb1⟩
  have hB1:=(below2 w _ _).trans (hb1.mono (by simp; omega))
  have CF:=stay hb1 (alloc1_blk w _ _)
  have CM:=stay hb1 (alloc2_blk w _ _)
  have m0:=blk_cell CM 0
  have m1:=blk_cell CM 1
  have m2:=blk_cell CM 2
  have m3:=blk_cell CM 3
  have m4:=blk_cell CM 4
  have m5:=blk_cell CM 5
  have m6:=blk_cell CM 6
  have m7:=blk_cell CM 7
  have m8:=blk_cell CM 8
  have m9:=blk_cell CM 9
  have m10:=blk_cell CM 10
  have m11:=blk_cell CM 11
  have f0:=blk_cell CF 0
  have f1:=blk_cell CF 1
  simp at f0 f1 m0 m1 m2 m3 m4 m5 m6 m7 m8 m9 m10 m11
  have lF:=lt_of_block CF
  have lM:=lt_of_block CM
  have hs1:=hB1.size
  clear hb1
  have hn:=TyR.new2 w1 1 0 1 0
  go_wp2
  go_ret
  obtain rfl:=unhide HR
  exact ⟨_,_,rfl,hn,hB1.alloc hs1 _⟩
 have n9:((code[p].toNat:Int) == 9)=false:=by simp; omega
 have i9:=hop
 clear hop
 by_cases hop:(code[p].toNat:Int)=10
 ·have HR:Hid (R=[(1,0),(1,0)]):=by unfold Hid; rw [← hres]; unfold Ck.takes; rw [hop]; simp
  clear hres
  go_enter Tryz.func189,Tryz.ntmps189
  go_wp2_with fail
  refine (unhide HAr _).mono ?_
  rintro e w1 ⟨rfl,hb1⟩
  have hB1:=(below2 w _ _).trans (hb1.mono (by simp; omega))
  have CF:=stay hb1 (alloc1_blk w _ _)
  have CM:=stay hb1 (alloc2_blk w _ _)
  have m0:=blk_cell CM 0
  have m1:=blk_cell CM 1
  have m2:=blk_cell CM 2
  have m3:=blk_cell CM 3
  have m4:=blk_cell CM 4
  have m5:=blk_cell CM 5
  have m6:=blk_cell CM 6
  have m7:=blk_cell CM 7
  have m8:=blk_cell CM 8
  have m9:=blk_cell CM 9
  have m10:=blk_cell CM 10
  have m11:=blk_cell CM 11
  have f0:=blk_cell CF 0
  have f1:=blk_cell CF 1
  simp at f0 f1 m0 m1 m2 m3 m4 m5 m6 m7 m8 m9 m10 m11
  have lF:=lt_of_block CF
  have lM:=lt_of_block CM
  have hs1:=hB1.size
  clear hb1
  have hn:=TyR.new2 w1 1 0 1 0
  go_wp2
  go_ret
  obtain rfl:=unhide HR
  exact ⟨_,_,rfl,hn,hB1.alloc hs1 _⟩
 have n10:((code[p].toNat:Int) == 10)=false:=by simp; omega
 have i10:=hop
 clear hop
 by_cases hop:(code[p].toNat:Int)=13
 ·have HR:Hid (R=[(1,0),(1,0)]):=by unfold Hid; rw [← hres]; unfold Ck.takes; rw [hop]; simp
  clear hres
  go_enter Tryz.func189,Tryz.ntmps189
  go_wp2_with fail
  refine (unhide HAr _).mono ?_
  rintro e w1 ⟨rfl,hb1⟩
  have hB1:=(below2 w _ _).trans (hb1.mono (by simp; omega))
  have CF:=stay hb1 (alloc1_blk w _ _)
  have CM:=stay hb1 (alloc2_blk w _ _)
  have m0:=blk_cell CM 0
  have m1:=blk_cell CM 1
  have m2:=blk_cell CM 2
  have m3:=blk_cell CM 3
  have m4:=blk_cell CM 4
  have m5:=blk_cell CM 5
  have m6:=blk_cell CM 6
  have m7:=blk_cell CM 7
  have m8:=blk_cell CM 8
  have m9:=blk_cell CM 9
  have m10:=blk_cell CM 10
  have m11:=blk_cell CM 11
  have f0:=blk_cell CF 0
  have f1:=blk_cell CF 1
  simp at f0 f1 m0 m1 m2 m3 m4 m5 m6 m7 m8 m9 m10 m11
  have lF:=lt_of_block CF
  have lM:=lt_of_block CM
  have hs1:=hB1.size
  clear hb1
  have hn:=TyR.new2 w1 1 0 1 0
  go_wp2
  go_ret
  obtain rfl:=unhide HR
  exact ⟨_,_,rfl,hn,hB1.alloc hs1 _⟩
 have n13:((code[p].toNat:Int) == 13)=false:=by simp; omega
 have i13:=hop
 clear hop
 by_cases hop:(code[p].toNat:Int)=12
 ·have HR:Hid (R=[(1,0)]):=by unfold Hid; rw [← hres]; unfold Ck.takes; rw [hop]; simp
  clear hres
  go_enter Tryz.func189,Tryz.ntmps189
  go_wp2_with fail
  refine (unhide HAr _).mono ?_
  rintro e w1 ⟨rfl,hb1⟩
  have hB1:=(below2 w _ _).trans (hb1.mono (by simp; omega))
  have CF:=stay hb1 (alloc1_blk w _ _)
  have CM:=stay hb1 (alloc2_blk w _ _)
  have m0:=blk_cell CM 0
  have m1:=blk_cell CM 1
  have m2:=blk_cell CM 2
  have m3:=blk_cell CM 3
  have m4:=blk_cell CM 4
  have m5:=blk_cell CM 5
  have m6:=blk_cell CM 6
  have m7:=blk_cell CM 7
  have m8:=blk_cell CM 8
  have m9:=blk_cell CM 9
  have m10:=blk_cell CM 10
  have m11:=blk_cell CM 11
  have f0:=blk_cell CF 0
  have f1:=blk_cell CF 1
  simp at f0 f1 m0 m1 m2 m3 m4 m5 m6 m7 m8 m9 m10 m11
  have lF:=lt_of_block CF
  have lM:=lt_of_block CM
  have hs1:=hB1.size
  clear hb1
  go_wp2_with fail
  refine (rone_any 1 _).mono ?_
  rintro e w2 ⟨a,c,rfl,ht,hb2⟩
  go_wp2
  go_ret
  obtain rfl:=unhide HR
  exact ⟨a,c,rfl,ht,hB1.trans (hb2.mono hs1)⟩
 have n12:((code[p].toNat:Int) == 12)=false:=by simp; omega
 have i12:=hop
 clear hop
 by_cases hop:(code[p].toNat:Int)=25
 ·have HR:Hid (R=[(1,0)]):=by unfold Hid; rw [← hres]; unfold Ck.takes; rw [hop]; simp
  clear hres
  go_enter Tryz.func189,Tryz.ntmps189
  go_wp2_with fail
  refine (unhide HAr _).mono ?_
  rintro e w1 ⟨rfl,hb1⟩
  have hB1:=(below2 w _ _).trans (hb1.mono (by simp; omega))
  have CF:=stay hb1 (alloc1_blk w _ _)
  have CM:=stay hb1 (alloc2_blk w _ _)
  have m0:=blk_cell CM 0
  have m1:=blk_cell CM 1
  have m2:=blk_cell CM 2
  have m3:=blk_cell CM 3
  have m4:=blk_cell CM 4
  have m5:=blk_cell CM 5
  have m6:=blk_cell CM 6
  have m7:=blk_cell CM 7
  have m8:=blk_cell CM 8
  have m9:=blk_cell CM 9
  have m10:=blk_cell CM 10
  have m11:=blk_cell CM 11
  have f0:=blk_cell CF 0
  have f1:=blk_cell CF 1
  simp at f0 f1 m0 m1 m2 m3 m4 m5 m6 m7 m8 m9 m10 m11
  have lF:=lt_of_block CF
  have lM:=lt_of_block CM
  have hs1:=hB1.size
  clear hb1
  go_wp2_with fail
  refine (rone_any 1 _).mono ?_
  rintro e w2 ⟨a,c,rfl,ht,hb2⟩
  go_wp2
  go_ret
  obtain rfl:=unhide HR
  exact ⟨a,c,rfl,ht,hB1.trans (hb2.mono hs1)⟩
 have n25:((code[p].toNat:Int) == 25)=false:=by simp; omega
 have i25:=hop
 clear hop
 by_cases hop:(code[p].toNat:Int)=14
 ·have HR:Hid (R=[(3,0)]):=by unfold Hid; rw [← hres]; unfold Ck.takes; rw [hop]; simp
  clear hres
  go_enter Tryz.func189,Tryz.ntmps189
  go_wp2_with fail
  refine (unhide HAr _).mono ?_
  rintro e w1 ⟨rfl,hb1⟩
  have hB1:=(below2 w _ _).trans (hb1.mono (by simp; omega))
  have CF:=stay hb1 (alloc1_blk w _ _)
  have CM:=stay hb1 (alloc2_blk w _ _)
  have m0:=blk_cell CM 0
  have m1:=blk_cell CM 1
  have m2:=blk_cell CM 2
  have m3:=blk_cell CM 3
  have m4:=blk_cell CM 4
  have m5:=blk_cell CM 5
  have m6:=blk_cell CM 6
  have m7:=blk_cell CM 7
  have m8:=blk_cell CM 8
  have m9:=blk_cell CM 9
  have m10:=blk_cell CM 10
  have m11:=blk_cell CM 11
  have f0:=blk_cell CF 0
  have f1:=blk_cell CF 1
  simp at f0 f1 m0 m1 m2 m3 m4 m5 m6 m7 m8 m9 m10 m11
  have lF:=lt_of_block CF
  have lM:=lt_of_block CM
  have hs1:=hB1.size
  clear hb1
  go_wp2_with fail
  refine (rref_any 0 _).mono ?_
  rintro e w2 ⟨rfl,hb2⟩
  have hB2:=hB1.trans (hb2.mono hs1)
  have hn:=TyR.new1 w2 3 0
  go_wp2
  go_ret
  obtain rfl:=unhide HR
  exact ⟨_,_,rfl,hn,hB2.alloc hB2.size _⟩
 have n14:((code[p].toNat:Int) == 14)=false:=by simp; omega
 have i14:=hop
 clear hop
 by_cases hop:(code[p].toNat:Int)=19
 ·have HR:Hid (R=[(3,0)]):=by unfold Hid; rw [← hres]; unfold Ck.takes; rw [hop]; simp
  clear hres
  go_enter Tryz.func189,Tryz.ntmps189
  go_wp2_with fail
  refine (unhide HAr _).mono ?_
  rintro e w1 ⟨rfl,hb1⟩
  have hB1:=(below2 w _ _).trans (hb1.mono (by simp; omega))
  have CF:=stay hb1 (alloc1_blk w _ _)
  have CM:=stay hb1 (alloc2_blk w _ _)
  have m0:=blk_cell CM 0
  have m1:=blk_cell CM 1
  have m2:=blk_cell CM 2
  have m3:=blk_cell CM 3
  have m4:=blk_cell CM 4
  have m5:=blk_cell CM 5
  have m6:=blk_cell CM 6
  have m7:=blk_cell CM 7
  have m8:=blk_cell CM 8
  have m9:=blk_cell CM 9
  have m10:=blk_cell CM 10
  have m11:=blk_cell CM 11
  have f0:=blk_cell CF 0
  have f1:=blk_cell CF 1
  simp at f0 f1 m0 m1 m2 m3 m4 m5 m6 m7 m8 m9 m10 m11
  have lF:=lt_of_block CF
  have lM:=lt_of_block CM
  have hs1:=hB1.size
  clear hb1
  go_wp2_with fail
  refine (rref_any 0 _).mono ?_
  rintro e w2 ⟨rfl,hb2⟩
  have hB2:=hB1.trans (hb2.mono hs1)
  have hn:=TyR.new1 w2 3 0
  go_wp2
  go_ret
  obtain rfl:=unhide HR
  exact ⟨_,_,rfl,hn,hB2.alloc hB2.size _⟩
 have n19:((code[p].toNat:Int) == 19)=false:=by simp; omega
 have i19:=hop
 clear hop
 by_cases hop:(code[p].toNat:Int)=17
 ·have hq:=unhide HN1 (by rw [hop]; simp)
  obtain ⟨q,rfl⟩:=Int.eq_ofNat_of_zero_le hq.1
  have hqf:q < flds.length:=by omega
  have hqi:(q:Int) < (flds.length:Int):=by omega
  have HR:Hid (R=[(3,(flds.getD q ⟨0,0,(0,0)⟩).owner)]):=by unfold Hid; rw [← hres]; unfold Ck.takes; rw [hop]; simp [-List.getD_eq_getElem?_getD]
  clear hres
  go_enter Tryz.func189,Tryz.ntmps189
  go_wp2_with fail
  refine (unhide HAr _).mono ?_
  rintro e w1 ⟨rfl,hb1⟩
  have hB1:=(below2 w _ _).trans (hb1.mono (by simp; omega))
  have CF:=stay hb1 (alloc1_blk w _ _)
  have CM:=stay hb1 (alloc2_blk w _ _)
  have m0:=blk_cell CM 0
  have m1:=blk_cell CM 1
  have m2:=blk_cell CM 2
  have m3:=blk_cell CM 3
  have m4:=blk_cell CM 4
  have m5:=blk_cell CM 5
  have m6:=blk_cell CM 6
  have m7:=blk_cell CM 7
  have m8:=blk_cell CM 8
  have m9:=blk_cell CM 9
  have m10:=blk_cell CM 10
  have m11:=blk_cell CM 11
  have f0:=blk_cell CF 0
  have f1:=blk_cell CF 1
  simp at f0 f1 m0 m1 m2 m3 m4 m5 m6 m7 m8 m9 m10 m11
  have lF:=lt_of_block CF
  have lM:=lt_of_block CM
  have hs1:=hB1.size
  clear hb1
  go_wp2_with fail
  refine (unhide HFi _ ((unhide HF0).below hB1)).mono ?_
  rintro e w2 ⟨va,vc,rfl,hown,hb2⟩
  have hB2:=hB1.trans (hb2.mono hs1)
  have hs2:=hB2.size
  obtain ⟨g,hg,hglt,_,hcell⟩:=own_some hown (by omega)
  have y0:=(hcell _ (fcells_at flds q hqf 0 (by omega)).2).trans (fcells_at flds q hqf 0 (by omega)).1
  have y2:=(hcell _ (fcells_at flds q hqf 2 (by omega)).2).trans (fcells_at flds q hqf 2 (by omega)).1
  have y3:=(hcell _ (fcells_at flds q hqf 3 (by omega)).2).trans (fcells_at flds q hqf 3 (by omega)).1
  simp at y0 y2 y3
  have hfd:flds.getD q ⟨0,0,(0,0)⟩=flds[q]:=by simp [List.getD_eq_getElem?_getD,hqf]
  have hRR:=unhide HR
  rw [hfd] at hRR
  generalize flds[q]=fd at *
  obtain ⟨fo,fs,ft1,ft2⟩:=fd
  simp only at y0 y2 y3 hRR
  have HR2:=hide hRR
  clear hcell hown hfd hRR HR
  subst hg
  go_wp2_with fail
  refine (rref_any fo _).mono ?_
  rintro e w3 ⟨rfl,hb3⟩
  have hB3:=hB2.trans (hb3.mono hs2)
  have hn:=TyR.new1 w3 3 fo
  go_wp2
  go_ret
  obtain rfl:=unhide HR2
  exact ⟨_,_,rfl,hn,hB3.alloc hB3.size _⟩
 have n17:((code[p].toNat:Int) == 17)=false:=by simp; omega
 have i17:=hop
 clear hop
 by_cases hop:(code[p].toNat:Int)=18
 ·have hq:=unhide HN1 (by rw [hop]; simp)
  obtain ⟨q,rfl⟩:=Int.eq_ofNat_of_zero_le hq.1
  have hqf:q < flds.length:=by omega
  have hqi:(q:Int) < (flds.length:Int):=by omega
  have HR:Hid (R=[(3,(flds.getD q ⟨0,0,(0,0)⟩).owner),(flds.getD q ⟨0,0,(0,0)⟩).t]):=by unfold Hid; rw [← hres]; unfold Ck.takes; rw [hop]; simp [-List.getD_eq_getElem?_getD]
  clear hres
  go_enter Tryz.func189,Tryz.ntmps189
  go_wp2_with fail
  refine (unhide HAr _).mono ?_
  rintro e w1 ⟨rfl,hb1⟩
  have hB1:=(below2 w _ _).trans (hb1.mono (by simp; omega))
  have CF:=stay hb1 (alloc1_blk w _ _)
  have CM:=stay hb1 (alloc2_blk w _ _)
  have m0:=blk_cell CM 0
  have m1:=blk_cell CM 1
  have m2:=blk_cell CM 2
  have m3:=blk_cell CM 3
  have m4:=blk_cell CM 4
  have m5:=blk_cell CM 5
  have m6:=blk_cell CM 6
  have m7:=blk_cell CM 7
  have m8:=blk_cell CM 8
  have m9:=blk_cell CM 9
  have m10:=blk_cell CM 10
  have m11:=blk_cell CM 11
  have f0:=blk_cell CF 0
  have f1:=blk_cell CF 1
  simp at f0 f1 m0 m1 m2 m3 m4 m5 m6 m7 m8 m9 m10 m11
  have lF:=lt_of_block CF
  have lM:=lt_of_block CM
  have hs1:=hB1.size
  clear hb1
  go_wp2_with fail
  refine (unhide HFi _ ((unhide HF0).below hB1)).mono ?_
  rintro e w2 ⟨va,vc,rfl,hown,hb2⟩
  have hB2:=hB1.trans (hb2.mono hs1)
  have hs2:=hB2.size
  obtain ⟨g,hg,hglt,_,hcell⟩:=own_some hown (by omega)
  have y0:=(hcell _ (fcells_at flds q hqf 0 (by omega)).2).trans (fcells_at flds q hqf 0 (by omega)).1
  have y2:=(hcell _ (fcells_at flds q hqf 2 (by omega)).2).trans (fcells_at flds q hqf 2 (by omega)).1
  have y3:=(hcell _ (fcells_at flds q hqf 3 (by omega)).2).trans (fcells_at flds q hqf 3 (by omega)).1
  simp at y0 y2 y3
  have hfd:flds.getD q ⟨0,0,(0,0)⟩=flds[q]:=by simp [List.getD_eq_getElem?_getD,hqf]
  have hRR:=unhide HR
  rw [hfd] at hRR
  generalize flds[q]=fd at *
  obtain ⟨fo,fs,ft1,ft2⟩:=fd
  simp only at y0 y2 y3 hRR
  have HR2:=hide hRR
  clear hcell hown hfd hRR HR
  subst hg
  have hRf:=fun w=>rref_any fo w
  have HRf:=hide hRf
  clear hRf
  go_wp2
  go_region_held3 (fun w'=>w'.cell? ⟨g,q * 4,none⟩=some (.int .i64 fo)∧w'.cell? ⟨g,q * 4+2,none⟩=some (.int .i64 ft1)∧w'.cell? ⟨g,q * 4+3,none⟩=some (.int .i64 ft2))
   (first | exact ⟨y0,y2,y3⟩ | exact ⟨(hb7.cell hglt).trans y0,(hb7.cell hglt).trans y2,(hb7.cell hglt).trans y3⟩ | exact ⟨((World.cell?_alloc_lt _ _ _ (Nat.lt_of_lt_of_le hglt hb7.size)).trans ((hb7.cell hglt).trans y0)),((World.cell?_alloc_lt _ _ _ (Nat.lt_of_lt_of_le hglt hb7.size)).trans ((hb7.cell hglt).trans y2)),((World.cell?_alloc_lt _ _ _ (Nat.lt_of_lt_of_le hglt hb7.size)).trans ((hb7.cell hglt).trans y3))⟩)
   (first | (go_at_call 126; refine (unhide HRf _).mono ?_; rintro e w7 ⟨rfl,hb7⟩))
  have hB7:=hB2.drew.trans (hb7.mono hs2)
  have hn:=TyR.new2 w7 3 fo ft1 ft2
  go_wp2
  go_ret
  obtain rfl:=unhide HR2
  exact ⟨_,_,rfl,hn,hB7.alloc hB7.size _⟩
 have n18:((code[p].toNat:Int) == 18)=false:=by simp; omega
 have i18:=hop
 clear hop
 by_cases hop:(code[p].toNat:Int)=20
 ·have hq:=unhide HN2 (by rw [hop]; simp)
  obtain ⟨q,rfl⟩:=Int.eq_ofNat_of_zero_le hq.1
  have hqm:q < ms.length:=by omega
  have hqi:(q:Int) < (ms.length:Int):=by omega
  have HR:Hid (R=(ms.getD q Ck.noM).1.m.params):=by unfold Hid; rw [← hres]; unfold Ck.takes; rw [hop]; simp [-List.getD_eq_getElem?_getD,mdl_at]
  clear hres
  go_enter Tryz.func189,Tryz.ntmps189
  go_wp2_with fail
  refine (unhide HAr _).mono ?_
  rintro e w1 ⟨rfl,hb1⟩
  have hB1:=(below2 w _ _).trans (hb1.mono (by simp; omega))
  have CF:=stay hb1 (alloc1_blk w _ _)
  have CM:=stay hb1 (alloc2_blk w _ _)
  have m0:=blk_cell CM 0
  have m1:=blk_cell CM 1
  have m2:=blk_cell CM 2
  have m3:=blk_cell CM 3
  have m4:=blk_cell CM 4
  have m5:=blk_cell CM 5
  have m6:=blk_cell CM 6
  have m7:=blk_cell CM 7
  have m8:=blk_cell CM 8
  have m9:=blk_cell CM 9
  have m10:=blk_cell CM 10
  have m11:=blk_cell CM 11
  have f0:=blk_cell CF 0
  have f1:=blk_cell CF 1
  simp at f0 f1 m0 m1 m2 m3 m4 m5 m6 m7 m8 m9 m10 m11
  have lF:=lt_of_block CF
  have lM:=lt_of_block CM
  have hs1:=hB1.size
  clear hb1
  obtain ⟨o,g,hg,hglt,hrow,his⟩:=RFl.mth ((unhide HF0).below hB1) hqm
  simp only at hg hrow his hqm
  replace hrow:=row12 hrow
  have hgd:ms.getD q Ck.noM=ms[q]:=by simp [List.getD_eq_getElem?_getD,hqm]
  have hRR:=unhide HR
  rw [hgd] at hRR
  have hpl:=unhide HPL _ (List.getElem_mem hqm)
  generalize ms[q]=md at *
  obtain ⟨md,mu⟩:=md
  simp only at his hRR hpl
  obtain ⟨e1,-,e3,e4,-,-,-,-,e9,hps,-,-,-,-,-⟩:=his
  have hres':md.m.result=(o.r1,o.r2):=by rw [e3,e4]
  generalize md.m.params=ps at *
  obtain ⟨ocl,onm,opa,opl,opc,or1,or2,olo,ost,ocode,oha,ohl,ohc,oma,oml,omc,omAt,ofin⟩:=o
  simp only at e9 hps hRR hrow
  subst e9
  obtain ⟨y0,y1,y2,y3,y4,y5,y6,y7,y8,y9,y10,y11⟩:=hrow
  have HR2:=hide hRR
  clear hgd hRR HR hres' e1 e3 e4
  subst hg
  go_wp2
  go_ret
  obtain rfl:=unhide HR2
  exact ⟨_,_,rfl,TyR.of_tys hps,hB1⟩
 have n20:((code[p].toNat:Int) == 20)=false:=by simp; omega
 have i20:=hop
 clear hop
 by_cases hop:(code[p].toNat:Int)=21
 ·have hq:=unhide HN2 (by rw [hop]; simp)
  obtain ⟨q,rfl⟩:=Int.eq_ofNat_of_zero_le hq.1
  have hqm:q < ms.length:=by omega
  have hqi:(q:Int) < (ms.length:Int):=by omega
  have HR:Hid (R=(3,(ms.getD q Ck.noM).1.m.cl) :: (ms.getD q Ck.noM).1.m.params):=by unfold Hid; rw [← hres]; unfold Ck.takes; rw [hop]; simp [-List.getD_eq_getElem?_getD,mdl_at]
  clear hres
  go_enter Tryz.func189,Tryz.ntmps189
  go_wp2_with fail
  refine (unhide HAr _).mono ?_
  rintro e w1 ⟨rfl,hb1⟩
  have hB1:=(below2 w _ _).trans (hb1.mono (by simp; omega))
  have CF:=stay hb1 (alloc1_blk w _ _)
  have CM:=stay hb1 (alloc2_blk w _ _)
  have m0:=blk_cell CM 0
  have m1:=blk_cell CM 1
  have m2:=blk_cell CM 2
  have m3:=blk_cell CM 3
  have m4:=blk_cell CM 4
  have m5:=blk_cell CM 5
  have m6:=blk_cell CM 6
  have m7:=blk_cell CM 7
  have m8:=blk_cell CM 8
  have m9:=blk_cell CM 9
  have m10:=blk_cell CM 10
  have m11:=blk_cell CM 11
  have f0:=blk_cell CF 0
  have f1:=blk_cell CF 1
  simp at f0 f1 m0 m1 m2 m3 m4 m5 m6 m7 m8 m9 m10 m11
  have lF:=lt_of_block CF
  have lM:=lt_of_block CM
  have hs1:=hB1.size
  clear hb1
  obtain ⟨o,g,hg,hglt,hrow,his⟩:=RFl.mth ((unhide HF0).below hB1) hqm
  simp only at hg hrow his hqm
  replace hrow:=row12 hrow
  have hgd:ms.getD q Ck.noM=ms[q]:=by simp [List.getD_eq_getElem?_getD,hqm]
  have hRR:=unhide HR
  rw [hgd] at hRR
  have hpl:=unhide HPL _ (List.getElem_mem hqm)
  generalize ms[q]=md at *
  obtain ⟨md,mu⟩:=md
  simp only at his hRR hpl
  obtain ⟨e1,-,e3,e4,-,-,-,-,e9,hps,-,-,-,-,-⟩:=his
  have hres':md.m.result=(o.r1,o.r2):=by rw [e3,e4]
  rw [← e1] at hRR
  generalize md.m.params=ps at *
  obtain ⟨ocl,onm,opa,opl,opc,or1,or2,olo,ost,ocode,oha,ohl,ohc,oma,oml,omc,omAt,ofin⟩:=o
  simp only at e9 hps hRR hrow
  subst e9
  obtain ⟨y0,y1,y2,y3,y4,y5,y6,y7,y8,y9,y10,y11⟩:=hrow
  have HR2:=hide hRR
  clear hgd hRR HR hres' e1 e3 e4
  subst hg
  go_wp2_with fail
  refine (rref_any ocl _).mono ?_
  rintro e w2 ⟨rfl,hb2⟩
  have hB2:=hB1.trans (hb2.mono hs1)
  have hs2:=hB2.size
  have CF2:=stay hb2 CF
  have f1':=blk_cell CF2 1
  have lF2:=lt_of_block CF2
  simp at f1'
  have hg2:g < w2.heap.size:=Nat.lt_of_lt_of_le hglt hb2.size
  have y2':=(hb2.cell (p:=⟨g,q * 12+2,none⟩) hglt).trans y2
  have hbl2:Below w2.heap.size w2 (w2.alloc (.cells #[.int .i64 3,.int .i64 ocl] 48)):=(Below.refl _ _).alloc (Nat.le_refl _) _
  have hps2:=((TyR.of_tys hps).below hb2).below hbl2
  have hown2:(w2.alloc (.cells #[.int .i64 3,.int .i64 ocl] 48)).ownsRow w2.heap.size 48 2 (.slice (some ⟨w2.heap.size,0,none⟩) 1 1) ([((3:Int),ocl)]:List (Int × Int)).length (tcells [((3:Int),ocl)]) :=
   ⟨rfl,.inr ⟨w2.heap.size,1,_,rfl,Nat.le_refl _,alloc_blk _ _,by simp,by unfold maxLen; omega,rfl,rfl⟩⟩
  clear hb2 y0 y1 y2 y3 y4 y5 y6 y7 y8 y9 y10 y11
  go_wp2_with (at_builtin; refine append_tyr rfl _ _ rfl w2.heap.size _ [(3,ocl)] ps opa ps.length opc rfl hown2 rfl hps2 (by simp; omega) (by simp) ?_)
  intro v' w3 hown3 hgrow
  obtain ⟨va,vc,rfl⟩:=own_shape hown3
  have hB3:=(hB2.alloc hs2 (.cells #[.int .i64 3,.int .i64 ocl] 48)).grown hgrow (by simp; omega) (fun j hj=>by have:=(hown2.lt j hj).1; omega)
  clear hgrow
  go_wp2
  go_ret
  obtain rfl:=unhide HR2
  exact ⟨va,vc,by simp,own_tyr (by simpa using hown3) (by simp),hB3⟩
 have n21:((code[p].toNat:Int) == 21)=false:=by simp; omega
 have i21:=hop
 clear hop
 by_cases hop:(code[p].toNat:Int)=22
 ·have HR:Hid (R=Ck.gives (r1,r2)):=by unfold Hid; rw [← hres]; unfold Ck.takes; rw [hop]; simp
  clear hres
  go_enter Tryz.func189,Tryz.ntmps189
  go_wp2_with fail
  refine (unhide HAr _).mono ?_
  rintro e w1 ⟨rfl,hb1⟩
  have hB1:=(below2 w _ _).trans (hb1.mono (by simp; omega))
  have CF:=stay hb1 (alloc1_blk w _ _)
  have CM:=stay hb1 (alloc2_blk w _ _)
  have m0:=blk_cell CM 0
  have m1:=blk_cell CM 1
  have m2:=blk_cell CM 2
  have m3:=blk_cell CM 3
  have m4:=blk_cell CM 4
  have m5:=blk_cell CM 5
  have m6:=blk_cell CM 6
  have m7:=blk_cell CM 7
  have m8:=blk_cell CM 8
  have m9:=blk_cell CM 9
  have m10:=blk_cell CM 10
  have m11:=blk_cell CM 11
  have f0:=blk_cell CF 0
  have f1:=blk_cell CF 1
  simp at f0 f1 m0 m1 m2 m3 m4 m5 m6 m7 m8 m9 m10 m11
  have lF:=lt_of_block CF
  have lM:=lt_of_block CM
  have hs1:=hB1.size
  clear hb1
  go_wp2_with fail
  refine (unhide HGi _).mono ?_
  rintro e w2 ⟨a,c,rfl,ht,hb2⟩
  go_wp2
  go_ret
  obtain rfl:=unhide HR
  exact ⟨a,c,rfl,ht,hB1.trans (hb2.mono hs1)⟩
 have n22:((code[p].toNat:Int) == 22)=false:=by simp; omega
 have i22:=hop
 clear hop
 by_cases hop:(code[p].toNat:Int)=23
 ·have HR:Hid (R=[(3,1)]):=by unfold Hid; rw [← hres]; unfold Ck.takes; rw [hop]; simp
  clear hres
  go_enter Tryz.func189,Tryz.ntmps189
  go_wp2_with fail
  refine (unhide HAr _).mono ?_
  rintro e w1 ⟨rfl,hb1⟩
  have hB1:=(below2 w _ _).trans (hb1.mono (by simp; omega))
  have CF:=stay hb1 (alloc1_blk w _ _)
  have CM:=stay hb1 (alloc2_blk w _ _)
  have m0:=blk_cell CM 0
  have m1:=blk_cell CM 1
  have m2:=blk_cell CM 2
  have m3:=blk_cell CM 3
  have m4:=blk_cell CM 4
  have m5:=blk_cell CM 5
  have m6:=blk_cell CM 6
  have m7:=blk_cell CM 7
  have m8:=blk_cell CM 8
  have m9:=blk_cell CM 9
  have m10:=blk_cell CM 10
  have m11:=blk_cell CM 11
  have f0:=blk_cell CF 0
  have f1:=blk_cell CF 1
  simp at f0 f1 m0 m1 m2 m3 m4 m5 m6 m7 m8 m9 m10 m11
  have lF:=lt_of_block CF
  have lM:=lt_of_block CM
  have hs1:=hB1.size
  clear hb1
  go_wp2_with fail
  refine (rref_any 1 _).mono ?_
  rintro e w2 ⟨rfl,hb2⟩
  have hB2:=hB1.trans (hb2.mono hs1)
  have hn:=TyR.new1 w2 3 1
  go_wp2
  go_ret
  obtain rfl:=unhide HR
  exact ⟨_,_,rfl,hn,hB2.alloc hB2.size _⟩
 have n23:((code[p].toNat:Int) == 23)=false:=by simp; omega
 have i23:=hop
 clear hop
 have HR:Hid (R=[]):=by
  unfold Hid
  rw [← hres]
  unfold Ck.takes
  rw [if_neg (by omega),if_neg (by omega),if_neg (by omega),if_neg (by omega),if_neg (by omega),if_neg (by omega),if_neg (by omega),if_neg (by omega),if_neg (by omega)]
 clear hres i7 i8 i9 i10 i13 i12 i25 i14 i19 i17 i18 i20 i21 i22 i23
 go_enter Tryz.func189,Tryz.ntmps189
 go_wp2_with fail
 refine (unhide HAr _).mono ?_
 rintro e w1 ⟨rfl,hb1⟩
 have hB1:=(below2 w _ _).trans (hb1.mono (by simp; omega))
 have CF:=stay hb1 (alloc1_blk w _ _)
 have CM:=stay hb1 (alloc2_blk w _ _)
 have m0:=blk_cell CM 0
 have m1:=blk_cell CM 1
 have m2:=blk_cell CM 2
 have m3:=blk_cell CM 3
 have m4:=blk_cell CM 4
 have m5:=blk_cell CM 5
 have m6:=blk_cell CM 6
 have m7:=blk_cell CM 7
 have m8:=blk_cell CM 8
 have m9:=blk_cell CM 9
 have m10:=blk_cell CM 10
 have m11:=blk_cell CM 11
 have f0:=blk_cell CF 0
 have f1:=blk_cell CF 1
 simp at f0 f1 m0 m1 m2 m3 m4 m5 m6 m7 m8 m9 m10 m11
 have lF:=lt_of_block CF
 have lM:=lt_of_block CM
 have hs1:=hB1.size
 clear hb1
 go_wp2
 go_ret
 obtain rfl:=unhide HR
 exact ⟨none,0,rfl,TyR.nil _,hB1⟩

set_option maxRecDepth 100000 in
set_option maxHeartbeats 40000000 in
theorem rleaves_any (f:RFl) (m:RMV) (p:Nat) (w:World) (hf:f.ok w) (hp:p < m.code.size) (hs:m.code.size≤100000) (hpl:∀ x∈f.ms,x.1.m.params.length≤1000)
  (hN1:(nums m.code).getD p 0=17∨(nums m.code).getD p 0=18→0≤Rf.at' m.code.data.toList ((p:Int)+1)∧Rf.at' m.code.data.toList ((p:Int)+1) < (f.fields.length:Int))
  (hN2:(nums m.code).getD p 0=20∨(nums m.code).getD p 0=21→0≤Rf.at' m.code.data.toList ((p:Int)+1)∧Rf.at' m.code.data.toList ((p:Int)+1) < (f.ms.length:Int)) :
  Calls Tryz.prog 209 #[f.val,m.val,.int .i64 (p:Int)] w fun e w' =>
   ∃ a c,e=.returned (.slice a (Ck.leaves f.fields (f.ms.map fun x=>x.1.m) ((nums m.code).getD p 0) (Rf.at' m.code.data.toList ((p:Int)+1))).length c) ∧
    TyR w' (.slice a (Ck.leaves f.fields (f.ms.map fun x=>x.1.m) ((nums m.code).getD p 0) (Rf.at' m.code.data.toList ((p:Int)+1))).length c) (Ck.leaves f.fields (f.ms.map fun x=>x.1.m) ((nums m.code).getD p 0) (Rf.at' m.code.data.toList ((p:Int)+1)))∧Below w.heap.size w w':=by
 rw [nums_at _ _ hp] at hN1 hN2 ⊢
 have hAr:=fun w=>rArg_any m p w hp hs
 have hFi:=fun w (h:f.ok w)=>rfields_any f.a1 f.a2 f.c1 f.ms.length f.c2 f.bb f.l w h.1 h.2.1 h.2.2.2.1 h.2.2.2.2.1
 have hF0:=hf
 obtain ⟨fa1,fc1,fa2,fc2,bb,l,ms⟩:=f
 obtain ⟨cl,nm,pa,pl,pc,r1,r2,lo,st,code,ha,hl,hc,ma,ml,mc,mAt,fin⟩:=m
 simp only [RMV.val,RFl.val] at hp hs hAr hFi hN1 hN2 hpl ⊢
 have hfe:(RFl.mk fa1 fc1 fa2 fc2 bb l ms).fields=Rf.fieldsTo (supers l) (l.map Prod.fst) (l.length - 7):=rfl
 rw [← hfe] at hFi
 generalize (RFl.mk fa1 fc1 fa2 fc2 bb l ms).fields=flds at *
 generalize Rf.at' code.data.toList ((p:Int)+1)=n at *
 generalize hres:Ck.leaves flds (ms.map fun x=>x.1.m) (code[p].toNat:Int) n=R
 have hp':(p:Int) < (code.size:Int):=by omega
 have hwb:∀ c:UInt8,IntKind.i64.wrap (c.toNat:Int)=(c.toNat:Int):=fun c=>wrap_in _ (by omega) (by have:=c.toNat_lt; omega)
 have HAr:=hide hAr
 have HFi:=hide hFi
 have HF0:=hide hF0
 have HN1:=hide hN1
 have HN2:=hide hN2
 have HPL:=hide hpl
 clear hAr hFi hF0 hf hN1 hN2 hpl hfe
 by_cases hop:(code[p].toNat:Int)=0
 ·have HR:Hid (R=[(1,0)]):=by unfold Hid; rw [← hres]; unfold Ck.leaves; rw [hop]; simp
  clear hres
  go_enter Tryz.func209,Tryz.ntmps209
  go_wp2_with fail
  refine (unhide HAr _).mono ?_
  rintro e w1 ⟨rfl,hb1⟩
  have hB1:=(below2 w _ _).trans (hb1.mono (by simp; omega))
  have CF:=stay hb1 (alloc1_blk w _ _)
  have CM:=stay hb1 (alloc2_blk w _ _)
  have m0:=blk_cell CM 0
  have m1:=blk_cell CM 1
  have m2:=blk_cell CM 2
  have m3:=blk_cell CM 3
  have m4:=blk_cell CM 4
  have m5:=blk_cell CM 5
  have m6:=blk_cell CM 6
  have m7:=blk_cell CM 7
  have m8:=blk_cell CM 8
  have m9:=blk_cell CM 9
  have m10:=blk_cell CM 10
  have m11:=blk_cell CM 11
  have f0:=blk_cell CF 0
  have f1:=blk_cell CF 1
  simp at f0 f1 m0 m1 m2 m3 m4 m5 m6 m7 m8 m9 m10 m11
  have lF:=lt_of_block CF
  have lM:=lt_of_block CM
  have hs1:=hB1.size
  clear hb1
  go_wp2_with fail
  refine (rone_any 1 _).mono ?_
  rintro e w2 ⟨a,c,rfl,ht,hb2⟩
  go_wp2
  go_ret
  obtain rfl:=unhide HR
  exact ⟨a,c,rfl,ht,hB1.trans (hb2.mono hs1)⟩
 have n0:((code[p].toNat:Int) == 0)=false:=by simp; omega
 have i0:=hop
 clear hop
 by_cases hop:(code[p].toNat:Int)=7
 ·have HR:Hid (R=[(1,0)]):=by unfold Hid; rw [← hres]; unfold Ck.leaves; rw [hop]; simp
  clear hres
  go_enter Tryz.func209,Tryz.ntmps209
  go_wp2_with fail
  refine (unhide HAr _).mono ?_
  rintro e w1 ⟨rfl,hb1⟩
  have hB1:=(below2 w _ _).trans (hb1.mono (by simp; omega))
  have CF:=stay hb1 (alloc1_blk w _ _)
  have CM:=stay hb1 (alloc2_blk w _ _)
  have m0:=blk_cell CM 0
  have m1:=blk_cell CM 1
  have m2:=blk_cell CM 2
  have m3:=blk_cell CM 3
  have m4:=blk_cell CM 4
  have m5:=blk_cell CM 5
  have m6:=blk_cell CM 6
  have m7:=blk_cell CM 7
  have m8:=blk_cell CM 8
  have m9:=blk_cell CM 9
  have m10:=blk_cell CM 10
  have m11:=blk_cell CM 11
  have f0:=blk_cell CF 0
  have f1:=blk_cell CF 1
  simp at f0 f1 m0 m1 m2 m3 m4 m5 m6 m7 m8 m9 m10 m11
  have lF:=lt_of_block CF
  have lM:=lt_of_block CM
  have hs1:=hB1.size
  clear hb1
  go_wp2_with fail
  refine (rone_any 1 _).mono ?_
  rintro e w2 ⟨a,c,rfl,ht,hb2⟩
  go_wp2
  go_ret
  obtain rfl:=unhide HR
  exact ⟨a,c,rfl,ht,hB1.trans (hb2.mono hs1)⟩
 have n7:((code[p].toNat:Int) == 7)=false:=by simp; omega
 have i7:=hop
 clear hop
 by_cases hop:(code[p].toNat:Int)=8
 ·have HR:Hid (R=[(1,0)]):=by unfold Hid; rw [← hres]; unfold Ck.leaves; rw [hop]; simp
  clear hres
  go_enter Tryz.func209,Tryz.ntmps209
  go_wp2_with fail
  refine (unhide HAr _).mono ?_
  rintro e w1 ⟨rfl,hb1⟩
  have hB1:=(below2 w _ _).trans (hb1.mono (by simp; omega))
  have CF:=stay hb1 (alloc1_blk w _ _)
  have CM:=stay hb1 (alloc2_blk w _ _)
  have m0:=blk_cell CM 0
  have m1:=blk_cell CM 1
  have m2:=blk_cell CM 2
  have m3:=blk_cell CM 3
  have m4:=blk_cell CM 4
  have m5:=blk_cell CM 5
  have m6:=blk_cell CM 6
  have m7:=blk_cell CM 7
  have m8:=blk_cell CM 8
  have m9:=blk_cell CM 9
  have m10:=blk_cell CM 10
  have m11:=blk_cell CM 11
  have f0:=blk_cell CF 0
  have f1:=blk_cell CF 1
  simp at f0 f1 m0 m1 m2 m3 m4 m5 m6 m7 m8 m9 m10 m11
  have lF:=lt_of_block CF
  have lM:=lt_of_block CM
  have hs1:=hB1.size
  clear hb1
  go_wp2_with fail
  refine (rone_any 1 _).mono ?_
  rintro e w2 ⟨a,c,rfl,ht,hb2⟩
  go_wp2
  go_ret
  obtain rfl:=unhide HR
  exact ⟨a,c,rfl,ht,hB1.trans (hb2.mono hs1)⟩
 have n8:((code[p].toNat:Int) == 8)=false:=by simp; omega
 have i8:=hop
 clear hop
 by_cases hop:(code[p].toNat:Int)=9
 ·have HR:Hid (R=[(1,0)]):=by unfold Hid; rw [← hres]; unfold Ck.leaves; rw [hop]; simp
  clear hres
  go_enter Tryz.func209,Tryz.ntmps209
  go_wp2_with fail
  refine (unhide HAr _).mono ?_
  rintro e w1 ⟨rfl,hb1⟩
  have hB1:=(below2 w _ _).trans (hb1.mono (by simp; omega))
  have CF:=stay hb1 (alloc1_blk w _ _)
  have CM:=stay hb1 (alloc2_blk w _ _)
  have m0:=blk_cell CM 0
  have m1:=blk_cell CM 1
  have m2:=blk_cell CM 2
  have m3:=blk_cell CM 3
  have m4:=blk_cell CM 4
  have m5:=blk_cell CM 5
  have m6:=blk_cell CM 6
  have m7:=blk_cell CM 7
  have m8:=blk_cell CM 8
  have m9:=blk_cell CM 9
  have m10:=blk_cell CM 10
  have m11:=blk_cell CM 11
  have f0:=blk_cell CF 0
  have f1:=blk_cell CF 1
  simp at f0 f1 m0 m1 m2 m3 m4 m5 m6 m7 m8 m9 m10 m11
  have lF:=lt_of_block CF
  have lM:=lt_of_block CM
  have hs1:=hB1.size
  clear hb1
  go_wp2_with fail
  refine (rone_any 1 _).mono ?_
  rintro e w2 ⟨a,c,rfl,ht,hb2⟩
  go_wp2
  go_ret
  obtain rfl:=unhide HR
  exact ⟨a,c,rfl,ht,hB1.trans (hb2.mono hs1)⟩
 have n9:((code[p].toNat:Int) == 9)=false:=by simp; omega
 have i9:=hop
 clear hop
 by_cases hop:(code[p].toNat:Int)=10
 ·have HR:Hid (R=[(1,0)]):=by unfold Hid; rw [← hres]; unfold Ck.leaves; rw [hop]; simp
  clear hres
  go_enter Tryz.func209,Tryz.ntmps209
  go_wp2_with fail
  refine (unhide HAr _).mono ?_
  rintro e w1 ⟨rfl,hb1⟩
  have hB1:=(below2 w _ _).trans (hb1.mono (by simp; omega))
  have CF:=stay hb1 (alloc1_blk w _ _)
  have CM:=stay hb1 (alloc2_blk w _ _)
  have m0:=blk_cell CM 0
  have m1:=blk_cell CM 1
  have m2:=blk_cell CM 2
  have m3:=blk_cell CM 3
  have m4:=blk_cell CM 4
  have m5:=blk_cell CM 5
  have m6:=blk_cell CM 6
  have m7:=blk_cell CM 7
  have m8:=blk_cell CM 8
  have m9:=blk_cell CM 9
  have m10:=blk_cell CM 10
  have m11:=blk_cell CM 11
  have f0:=blk_cell CF 0
  have f1:=blk_cell CF 1
  simp at f0 f1 m0 m1 m2 m3 m4 m5 m6 m7 m8 m9 m10 m11
  have lF:=lt_of_block CF
  have lM:=lt_of_block CM
  have hs1:=hB1.size
  clear hb1
  go_wp2_with fail
  refine (rone_any 1 _).mono ?_
  rintro e w2 ⟨a,c,rfl,ht,hb2⟩
  go_wp2
  go_ret
  obtain rfl:=unhide HR
  exact ⟨a,c,rfl,ht,hB1.trans (hb2.mono hs1)⟩
 have n10:((code[p].toNat:Int) == 10)=false:=by simp; omega
 have i10:=hop
 clear hop
 by_cases hop:(code[p].toNat:Int)=24
 ·have HR:Hid (R=[(1,0)]):=by unfold Hid; rw [← hres]; unfold Ck.leaves; rw [hop]; simp
  clear hres
  go_enter Tryz.func209,Tryz.ntmps209
  go_wp2_with fail
  refine (unhide HAr _).mono ?_
  rintro e w1 ⟨rfl,hb1⟩
  have hB1:=(below2 w _ _).trans (hb1.mono (by simp; omega))
  have CF:=stay hb1 (alloc1_blk w _ _)
  have CM:=stay hb1 (alloc2_blk w _ _)
  have m0:=blk_cell CM 0
  have m1:=blk_cell CM 1
  have m2:=blk_cell CM 2
  have m3:=blk_cell CM 3
  have m4:=blk_cell CM 4
  have m5:=blk_cell CM 5
  have m6:=blk_cell CM 6
  have m7:=blk_cell CM 7
  have m8:=blk_cell CM 8
  have m9:=blk_cell CM 9
  have m10:=blk_cell CM 10
  have m11:=blk_cell CM 11
  have f0:=blk_cell CF 0
  have f1:=blk_cell CF 1
  simp at f0 f1 m0 m1 m2 m3 m4 m5 m6 m7 m8 m9 m10 m11
  have lF:=lt_of_block CF
  have lM:=lt_of_block CM
  have hs1:=hB1.size
  clear hb1
  go_wp2_with fail
  refine (rone_any 1 _).mono ?_
  rintro e w2 ⟨a,c,rfl,ht,hb2⟩
  go_wp2
  go_ret
  obtain rfl:=unhide HR
  exact ⟨a,c,rfl,ht,hB1.trans (hb2.mono hs1)⟩
 have n24:((code[p].toNat:Int) == 24)=false:=by simp; omega
 have i24:=hop
 clear hop
 by_cases hop:(code[p].toNat:Int)=1
 ·have HR:Hid (R=[(2,0)]):=by unfold Hid; rw [← hres]; unfold Ck.leaves; rw [hop]; simp
  clear hres
  go_enter Tryz.func209,Tryz.ntmps209
  go_wp2_with fail
  refine (unhide HAr _).mono ?_
  rintro e w1 ⟨rfl,hb1⟩
  have hB1:=(below2 w _ _).trans (hb1.mono (by simp; omega))
  have CF:=stay hb1 (alloc1_blk w _ _)
  have CM:=stay hb1 (alloc2_blk w _ _)
  have m0:=blk_cell CM 0
  have m1:=blk_cell CM 1
  have m2:=blk_cell CM 2
  have m3:=blk_cell CM 3
  have m4:=blk_cell CM 4
  have m5:=blk_cell CM 5
  have m6:=blk_cell CM 6
  have m7:=blk_cell CM 7
  have m8:=blk_cell CM 8
  have m9:=blk_cell CM 9
  have m10:=blk_cell CM 10
  have m11:=blk_cell CM 11
  have f0:=blk_cell CF 0
  have f1:=blk_cell CF 1
  simp at f0 f1 m0 m1 m2 m3 m4 m5 m6 m7 m8 m9 m10 m11
  have lF:=lt_of_block CF
  have lM:=lt_of_block CM
  have hs1:=hB1.size
  clear hb1
  go_wp2_with fail
  refine (rone_any 2 _).mono ?_
  rintro e w2 ⟨a,c,rfl,ht,hb2⟩
  go_wp2
  go_ret
  obtain rfl:=unhide HR
  exact ⟨a,c,rfl,ht,hB1.trans (hb2.mono hs1)⟩
 have n1:((code[p].toNat:Int) == 1)=false:=by simp; omega
 have i1:=hop
 clear hop
 by_cases hop:(code[p].toNat:Int)=17
 ·have hq:=unhide HN1 (by rw [hop]; simp)
  obtain ⟨q,rfl⟩:=Int.eq_ofNat_of_zero_le hq.1
  have hqf:q < flds.length:=by omega
  have hqi:(q:Int) < (flds.length:Int):=by omega
  have HR:Hid (R=[(flds.getD q ⟨0,0,(0,0)⟩).t]):=by unfold Hid; rw [← hres]; unfold Ck.leaves; rw [hop]; simp [-List.getD_eq_getElem?_getD]
  clear hres
  go_enter Tryz.func209,Tryz.ntmps209
  go_wp2_with fail
  refine (unhide HAr _).mono ?_
  rintro e w1 ⟨rfl,hb1⟩
  have hB1:=(below2 w _ _).trans (hb1.mono (by simp; omega))
  have CF:=stay hb1 (alloc1_blk w _ _)
  have CM:=stay hb1 (alloc2_blk w _ _)
  have m0:=blk_cell CM 0
  have m1:=blk_cell CM 1
  have m2:=blk_cell CM 2
  have m3:=blk_cell CM 3
  have m4:=blk_cell CM 4
  have m5:=blk_cell CM 5
  have m6:=blk_cell CM 6
  have m7:=blk_cell CM 7
  have m8:=blk_cell CM 8
  have m9:=blk_cell CM 9
  have m10:=blk_cell CM 10
  have m11:=blk_cell CM 11
  have f0:=blk_cell CF 0
  have f1:=blk_cell CF 1
  simp at f0 f1 m0 m1 m2 m3 m4 m5 m6 m7 m8 m9 m10 m11
  have lF:=lt_of_block CF
  have lM:=lt_of_block CM
  have hs1:=hB1.size
  clear hb1
  go_wp2_with fail
  refine (unhide HFi _ ((unhide HF0).below hB1)).mono ?_
  rintro e w2 ⟨va,vc,rfl,hown,hb2⟩
  have hB2:=hB1.trans (hb2.mono hs1)
  have hs2:=hB2.size
  obtain ⟨g,hg,hglt,_,hcell⟩:=own_some hown (by omega)
  have y0:=(hcell _ (fcells_at flds q hqf 0 (by omega)).2).trans (fcells_at flds q hqf 0 (by omega)).1
  have y2:=(hcell _ (fcells_at flds q hqf 2 (by omega)).2).trans (fcells_at flds q hqf 2 (by omega)).1
  have y3:=(hcell _ (fcells_at flds q hqf 3 (by omega)).2).trans (fcells_at flds q hqf 3 (by omega)).1
  simp at y0 y2 y3
  have hfd:flds.getD q ⟨0,0,(0,0)⟩=flds[q]:=by simp [List.getD_eq_getElem?_getD,hqf]
  have hRR:=unhide HR
  rw [hfd] at hRR
  generalize flds[q]=fd at *
  obtain ⟨fo,fs,ft1,ft2⟩:=fd
  simp only at y0 y2 y3 hRR
  have HR2:=hide hRR
  clear hcell hown hfd hRR HR
  subst hg
  have hn:=TyR.new1 w2 ft1 ft2
  go_wp2
  go_ret
  obtain rfl:=unhide HR2
  exact ⟨_,_,rfl,hn,hB2.alloc hs2 _⟩
 have n17:((code[p].toNat:Int) == 17)=false:=by simp; omega
 have i17:=hop
 clear hop
 by_cases hop:(code[p].toNat:Int)=19
 ·have HR:Hid (R=[(3,n)]):=by unfold Hid; rw [← hres]; unfold Ck.leaves; rw [hop]; simp
  clear hres
  go_enter Tryz.func209,Tryz.ntmps209
  go_wp2_with fail
  refine (unhide HAr _).mono ?_
  rintro e w1 ⟨rfl,hb1⟩
  have hB1:=(below2 w _ _).trans (hb1.mono (by simp; omega))
  have CF:=stay hb1 (alloc1_blk w _ _)
  have CM:=stay hb1 (alloc2_blk w _ _)
  have m0:=blk_cell CM 0
  have m1:=blk_cell CM 1
  have m2:=blk_cell CM 2
  have m3:=blk_cell CM 3
  have m4:=blk_cell CM 4
  have m5:=blk_cell CM 5
  have m6:=blk_cell CM 6
  have m7:=blk_cell CM 7
  have m8:=blk_cell CM 8
  have m9:=blk_cell CM 9
  have m10:=blk_cell CM 10
  have m11:=blk_cell CM 11
  have f0:=blk_cell CF 0
  have f1:=blk_cell CF 1
  simp at f0 f1 m0 m1 m2 m3 m4 m5 m6 m7 m8 m9 m10 m11
  have lF:=lt_of_block CF
  have lM:=lt_of_block CM
  have hs1:=hB1.size
  clear hb1
  go_wp2_with fail
  refine (rref_any n _).mono ?_
  rintro e w2 ⟨rfl,hb2⟩
  have hB2:=hB1.trans (hb2.mono hs1)
  have hn:=TyR.new1 w2 3 n
  go_wp2
  go_ret
  obtain rfl:=unhide HR
  exact ⟨_,_,rfl,hn,hB2.alloc hB2.size _⟩
 have n19:((code[p].toNat:Int) == 19)=false:=by simp; omega
 have i19:=hop
 clear hop
 by_cases hop:(code[p].toNat:Int)=20
 ·have hq:=unhide HN2 (by rw [hop]; simp)
  obtain ⟨q,rfl⟩:=Int.eq_ofNat_of_zero_le hq.1
  have hqm:q < ms.length:=by omega
  have hqi:(q:Int) < (ms.length:Int):=by omega
  have HR:Hid (R=Ck.gives (ms.getD q Ck.noM).1.m.result):=by unfold Hid; rw [← hres]; unfold Ck.leaves; rw [hop]; simp [-List.getD_eq_getElem?_getD,mdl_at]
  clear hres
  go_enter Tryz.func209,Tryz.ntmps209
  go_wp2_with fail
  refine (unhide HAr _).mono ?_
  rintro e w1 ⟨rfl,hb1⟩
  have hB1:=(below2 w _ _).trans (hb1.mono (by simp; omega))
  have CF:=stay hb1 (alloc1_blk w _ _)
  have CM:=stay hb1 (alloc2_blk w _ _)
  have m0:=blk_cell CM 0
  have m1:=blk_cell CM 1
  have m2:=blk_cell CM 2
  have m3:=blk_cell CM 3
  have m4:=blk_cell CM 4
  have m5:=blk_cell CM 5
  have m6:=blk_cell CM 6
  have m7:=blk_cell CM 7
  have m8:=blk_cell CM 8
  have m9:=blk_cell CM 9
  have m10:=blk_cell CM 10
  have m11:=blk_cell CM 11
  have f0:=blk_cell CF 0
  have f1:=blk_cell CF 1
  simp at f0 f1 m0 m1 m2 m3 m4 m5 m6 m7 m8 m9 m10 m11
  have lF:=lt_of_block CF
  have lM:=lt_of_block CM
  have hs1:=hB1.size
  clear hb1
  obtain ⟨o,g,hg,hglt,hrow,his⟩:=RFl.mth ((unhide HF0).below hB1) hqm
  simp only at hg hrow his hqm
  replace hrow:=row12 hrow
  have hgd:ms.getD q Ck.noM=ms[q]:=by simp [List.getD_eq_getElem?_getD,hqm]
  have hRR:=unhide HR
  rw [hgd] at hRR
  have hpl:=unhide HPL _ (List.getElem_mem hqm)
  generalize ms[q]=md at *
  obtain ⟨md,mu⟩:=md
  simp only at his hRR hpl
  obtain ⟨e1,-,e3,e4,-,-,-,-,e9,hps,-,-,-,-,-⟩:=his
  have hres':md.m.result=(o.r1,o.r2):=by rw [e3,e4]
  rw [hres'] at hRR
  generalize md.m.params=ps at *
  obtain ⟨ocl,onm,opa,opl,opc,or1,or2,olo,ost,ocode,oha,ohl,ohc,oma,oml,omc,omAt,ofin⟩:=o
  simp only at e9 hps hRR hrow
  subst e9
  obtain ⟨y0,y1,y2,y3,y4,y5,y6,y7,y8,y9,y10,y11⟩:=hrow
  have HR2:=hide hRR
  clear hgd hRR HR hres' e1 e3 e4
  subst hg
  have hgi:=fun w=>rgives_any ⟨ocl,onm,opa,ps.length,opc,or1,or2,olo,ost,ocode,oha,ohl,ohc,oma,oml,omc,omAt,ofin⟩ w
  simp only [RMV.val] at hgi
  have HGI:=hide hgi
  clear hgi
  go_wp2_with fail
  refine (unhide HGI _).mono ?_
  rintro e w2 ⟨a,c,rfl,ht,hb2⟩
  go_wp2
  go_ret
  obtain rfl:=unhide HR2
  exact ⟨a,c,rfl,ht,hB1.trans (hb2.mono hs1)⟩
 have n20:((code[p].toNat:Int) == 20)=false:=by simp; omega
 have i20:=hop
 clear hop
 by_cases hop:(code[p].toNat:Int)=21
 ·have hq:=unhide HN2 (by rw [hop]; simp)
  obtain ⟨q,rfl⟩:=Int.eq_ofNat_of_zero_le hq.1
  have hqm:q < ms.length:=by omega
  have hqi:(q:Int) < (ms.length:Int):=by omega
  have HR:Hid (R=Ck.gives (ms.getD q Ck.noM).1.m.result):=by unfold Hid; rw [← hres]; unfold Ck.leaves; rw [hop]; simp [-List.getD_eq_getElem?_getD,mdl_at]
  clear hres
  go_enter Tryz.func209,Tryz.ntmps209
  go_wp2_with fail
  refine (unhide HAr _).mono ?_
  rintro e w1 ⟨rfl,hb1⟩
  have hB1:=(below2 w _ _).trans (hb1.mono (by simp; omega))
  have CF:=stay hb1 (alloc1_blk w _ _)
  have CM:=stay hb1 (alloc2_blk w _ _)
  have m0:=blk_cell CM 0
  have m1:=blk_cell CM 1
  have m2:=blk_cell CM 2
  have m3:=blk_cell CM 3
  have m4:=blk_cell CM 4
  have m5:=blk_cell CM 5
  have m6:=blk_cell CM 6
  have m7:=blk_cell CM 7
  have m8:=blk_cell CM 8
  have m9:=blk_cell CM 9
  have m10:=blk_cell CM 10
  have m11:=blk_cell CM 11
  have f0:=blk_cell CF 0
  have f1:=blk_cell CF 1
  simp at f0 f1 m0 m1 m2 m3 m4 m5 m6 m7 m8 m9 m10 m11
  have lF:=lt_of_block CF
  have lM:=lt_of_block CM
  have hs1:=hB1.size
  clear hb1
  obtain ⟨o,g,hg,hglt,hrow,his⟩:=RFl.mth ((unhide HF0).below hB1) hqm
  simp only at hg hrow his hqm
  replace hrow:=row12 hrow
  have hgd:ms.getD q Ck.noM=ms[q]:=by simp [List.getD_eq_getElem?_getD,hqm]
  have hRR:=unhide HR
  rw [hgd] at hRR
  have hpl:=unhide HPL _ (List.getElem_mem hqm)
  generalize ms[q]=md at *
  obtain ⟨md,mu⟩:=md
  simp only at his hRR hpl
  obtain ⟨e1,-,e3,e4,-,-,-,-,e9,hps,-,-,-,-,-⟩:=his
  have hres':md.m.result=(o.r1,o.r2):=by rw [e3,e4]
  rw [hres'] at hRR
  generalize md.m.params=ps at *
  obtain ⟨ocl,onm,opa,opl,opc,or1,or2,olo,ost,ocode,oha,ohl,ohc,oma,oml,omc,omAt,ofin⟩:=o
  simp only at e9 hps hRR hrow
  subst e9
  obtain ⟨y0,y1,y2,y3,y4,y5,y6,y7,y8,y9,y10,y11⟩:=hrow
  have HR2:=hide hRR
  clear hgd hRR HR hres' e1 e3 e4
  subst hg
  have hgi:=fun w=>rgives_any ⟨ocl,onm,opa,ps.length,opc,or1,or2,olo,ost,ocode,oha,ohl,ohc,oma,oml,omc,omAt,ofin⟩ w
  simp only [RMV.val] at hgi
  have HGI:=hide hgi
  clear hgi
  go_wp2_with fail
  refine (unhide HGI _).mono ?_
  rintro e w2 ⟨a,c,rfl,ht,hb2⟩
  go_wp2
  go_ret
  obtain rfl:=unhide HR2
  exact ⟨a,c,rfl,ht,hB1.trans (hb2.mono hs1)⟩
 have n21:((code[p].toNat:Int) == 21)=false:=by simp; omega
 have i21:=hop
 clear hop
 have HR:Hid (R=[]):=by
  unfold Hid
  rw [← hres]
  unfold Ck.leaves
  rw [if_neg (by omega),if_neg (by omega),if_neg (by omega),if_neg (by omega),if_neg (by omega)]
 clear hres i0 i7 i8 i9 i10 i24 i1 i17 i19 i20 i21
 go_enter Tryz.func209,Tryz.ntmps209
 go_wp2_with fail
 refine (unhide HAr _).mono ?_
 rintro e w1 ⟨rfl,hb1⟩
 have hB1:=(below2 w _ _).trans (hb1.mono (by simp; omega))
 have CF:=stay hb1 (alloc1_blk w _ _)
 have CM:=stay hb1 (alloc2_blk w _ _)
 have m0:=blk_cell CM 0
 have m1:=blk_cell CM 1
 have m2:=blk_cell CM 2
 have m3:=blk_cell CM 3
 have m4:=blk_cell CM 4
 have m5:=blk_cell CM 5
 have m6:=blk_cell CM 6
 have m7:=blk_cell CM 7
 have m8:=blk_cell CM 8
 have m9:=blk_cell CM 9
 have m10:=blk_cell CM 10
 have m11:=blk_cell CM 11
 have f0:=blk_cell CF 0
 have f1:=blk_cell CF 1
 simp at f0 f1 m0 m1 m2 m3 m4 m5 m6 m7 m8 m9 m10 m11
 have lF:=lt_of_block CF
 have lM:=lt_of_block CM
 have hs1:=hB1.size
 clear hb1
 go_wp2
 go_ret
 obtain rfl:=unhide HR
 exact ⟨none,0,rfl,TyR.nil _,hB1⟩
end Go.Proofs.YteffpdofcgbokaaGreat
