/-
  The walk over the document's set: the rule of Init.
-/
import Derived.Test.YteffpdofcgbokaaGreatPk09

namespace Go.Proofs.YteffpdofcgbokaaGreat
open Go.RowKit

/-- the rule of Init: c: the class, want: its fields, arg: the number that a New at a place has -/
def Ck.set (T:List Int) (want:List (Int × Int)) (arg:Int→Int) (c:Int) (x:Ck.Fr):Option Ck.Fr :=
 if Ck.top T x.stack want=false then none else if x.stack.length < want.length+1 then none
 else if (x.stack.getD (x.stack.length - want.length - 1) (0,0)).1 ≠ 4 then none
 else if arg (x.stack.getD (x.stack.length - want.length - 1) (0,0)).2 ≠ c then none
 else some ⟨Ck.turned (x.stack.getD (x.stack.length - want.length - 1) (0,0)) (3,c) x.locals,Ck.turned (x.stack.getD (x.stack.length - want.length - 1) (0,0)) (3,c) (x.stack.take (x.stack.length - want.length - 1))⟩

set_option maxRecDepth 100000 in
set_option maxHeartbeats 40000000 in
theorem rset_any (f:RFl) (m:RMV) (c:Nat) (v:FrV) (x:Ck.Fr) (w:World) (hf:f.ok w) (hc:c < f.l.length) (hs:m.code.size≤100000) (hv:v.is x w) (hxl:x.locals.length≤1000) (hxs:x.stack.length≤1000)
  (hraw:∀ t∈x.stack,t.1=4→0≤t.2∧t.2 < (m.code.size:Int)) :
  Calls Tryz.prog 208 #[f.val,m.val,.int .i64 (c:Int),v.val] w fun e w' =>
   ∃ u:FrV,e=.returned (.tuple #[u.val,.bool (Ck.set f.T (Rf.all f.T (f.l.map Prod.fst) c) (fun q=>Rf.at' m.code.data.toList (q+1)) (c:Int) x).isSome]) ∧
    (∀ y,Ck.set f.T (Rf.all f.T (f.l.map Prod.fst) c) (fun q=>Rf.at' m.code.data.toList (q+1)) (c:Int) x=some y→u.is y w')∧Below w.heap.size w w':=by
 have hAl:=fun w' (h:Below w.heap.size w w')=>rall_any f.a1 f.a2 f.c1 f.ms.length f.c2 f.bb f.l c w' hf.1 hc hf.2.2.2.1 (hf.below h).2.2.2.2.1
 have hTp:=fun want a2 n2 c2 w' (h:Below w.heap.size w w') h2 hw=>rtop_any f.v f.T x.stack want v.sa a2 v.sn v.sc n2 c2 w' (RFl.fitsAs (hf.below h)) (hv.st.below h) h2 (by omega) hw
 have hAr:=fun q w' hq=>rArg_any m q w' hq hs
 have hTs:supers f.l=f.T:=rfl
 rw [hTs] at hAl
 have hal:=allTo_len f.T (f.l.map Prod.fst) (c:Int) (by intro p hp; obtain ⟨z,hz,rfl⟩:=List.mem_map.1 hp; exact hf.2.2.2.1 z hz) (c+1)
 have hal2:(Rf.all f.T (f.l.map Prod.fst) c).length≤14000:=by unfold Rf.all; have:=hf.1; omega
 have e1:=hv.lo.cap.1
 have e2:=hv.st.cap.1
 have hcs:=hv.st.cap.2.1
 have hlo:=hv.lo
 have hst:=hv.st
 generalize Rf.all f.T (f.l.map Prod.fst) c=want at *
 generalize hres:Ck.set f.T want (fun q=>Rf.at' m.code.data.toList (q+1)) (c:Int) x=R
 unfold Ck.set at hres
 have hTw:=fun a2 n2 c2 w' h h2=>hTp want a2 n2 c2 w' h h2 (by omega)
 generalize Ck.top f.T x.stack want=TP at *
 have hc13:c≤13:=by have:=hf.1; omega
 clear hTp hal hTs hf hv hc
 obtain ⟨fa1,fc1,fa2,fc2,bb,l,ms⟩:=f
 obtain ⟨cl,nm,pa,pl,pc,r1,r2,lo,st,code,ha,hl,hc,ma,ml,mc,mAt,fin⟩:=m
 obtain ⟨la,ln,lc,sa,sn,sc⟩:=v
 simp only [RMV.val,RFl.val,RFl.v,RFv.val,FrV.val] at hAl hTw hAr e1 e2 hcs hlo hst hraw hres hs ⊢
 subst e1 e2
 have HAL:=hide hAl
 have HTW:=hide hTw
 have HAR:=hide hAr
 have HRAW:=hide hraw
 clear hAl hTw hAr hraw
 have hB0:=below4 w (.cells #[.slice fa1 l.length fc1,.slice fa2 ms.length fc2] 28) (.cells #[.int .i64 cl,.int .i64 nm,.slice pa pl pc,.int .i64 r1,.int .i64 r2,.int .i64 lo,.int .i64 st,.string code,.slice ha hl hc,.slice ma ml mc,.int .i64 mAt,.int .i64 fin] 52) (.cells #[.slice la x.locals.length lc,.slice sa x.stack.length sc] 75) (.cells #[.slice none 0 0,.slice none 0 0] 75)
 obtain ⟨F0,M0,X0,Z0⟩:=blks4 w (.cells #[.slice fa1 l.length fc1,.slice fa2 ms.length fc2] 28) (.cells #[.int .i64 cl,.int .i64 nm,.slice pa pl pc,.int .i64 r1,.int .i64 r2,.int .i64 lo,.int .i64 st,.string code,.slice ha hl hc,.slice ma ml mc,.int .i64 mAt,.int .i64 fin] 52) (.cells #[.slice la x.locals.length lc,.slice sa x.stack.length sc] 75) (.cells #[.slice none 0 0,.slice none 0 0] 75)
 by_cases h1:TP=false
 ·subst h1
  rw [if_pos rfl] at hres
  have HE:=hide hres.symm
  clear hres
  go_enter Tryz.func208,Tryz.ntmps208
  go_wp2_with fail
  refine (unhide HAL _ hB0).mono ?_
  rintro e w1 ⟨wa,wc,rfl,hwt,hb1⟩
  have hB1:=hB0.trans (hb1.mono hB0.size)
  have F1:=stay hb1 F0
  have M1:=stay hb1 M0
  have X1:=stay hb1 X0
  have Z1:=stay hb1 Z0
  have f0:=blk_cell F1 0
  have f1:=blk_cell F1 1
  have x0:=blk_cell X1 0
  have x1:=blk_cell X1 1
  have lF:=lt_of_block F1
  have lX:=lt_of_block X1
  simp at f0 f1 x0 x1
  clear hb1 F0 M0 X0 Z0 hB0
  go_wp2_with fail
  refine (unhide HTW wa want.length wc _ hB1 (TyR.of_tys hwt)).mono ?_
  rintro e w2 ⟨rfl,hb2⟩
  have hB2:=hB1.trans (hb2.mono hB1.size)
  have F2:=stay hb2 F1
  have M2:=stay hb2 M1
  have X2:=stay hb2 X1
  have Z2:=stay hb2 Z1
  have hs2:=hB2.size
  clear f0 f1 x0 x1 lF lX
  have x0:=blk_cell X2 0
  have x1:=blk_cell X2 1
  have lX:=lt_of_block X2
  simp at x0 x1
  clear hb2 F1 M1 X1 Z1 hB1
  have z0:=blk_cell Z2 0
  have z1:=blk_cell Z2 1
  have q0:=blk_free Z2 0
  have q1:=blk_free Z2 1
  have lZ:=lt_of_block Z2
  simp at z0 z1
  go_wp2_with fail
  refine bodyPost_ret (v:=.tuple #[.agg #[.slice la x.locals.length lc,.slice sa x.stack.length sc],.bool false]) (by simp [results,Tryz.results208,go_sem,z0,z1]) rfl ?_
  obtain rfl:=unhide HE
  exact ⟨⟨la,x.locals.length,lc,sa,x.stack.length,sc⟩,rfl,fun y hy=>by simp at hy,(hB2.setCell (by simp; omega) _).setCell (by simp; omega) _⟩
 ·have h1':TP=true:=by simpa using h1
  subst h1'
  rw [if_neg (by simp)] at hres
  clear h1
  by_cases h2:x.stack.length < want.length+1
  ·rw [if_pos h2] at hres
   have HE:=hide hres.symm
   have h2':(x.stack.length:Int) - (want.length:Int) - 1 < 0:=by omega
   clear hres h2
   go_enter Tryz.func208,Tryz.ntmps208
   go_wp2_with fail
   refine (unhide HAL _ hB0).mono ?_
   rintro e w1 ⟨wa,wc,rfl,hwt,hb1⟩
   have hB1:=hB0.trans (hb1.mono hB0.size)
   have F1:=stay hb1 F0
   have M1:=stay hb1 M0
   have X1:=stay hb1 X0
   have Z1:=stay hb1 Z0
   have f0:=blk_cell F1 0
   have f1:=blk_cell F1 1
   have x0:=blk_cell X1 0
   have x1:=blk_cell X1 1
   have lF:=lt_of_block F1
   have lX:=lt_of_block X1
   simp at f0 f1 x0 x1
   clear hb1 F0 M0 X0 Z0 hB0
   go_wp2_with fail
   refine (unhide HTW wa want.length wc _ hB1 (TyR.of_tys hwt)).mono ?_
   rintro e w2 ⟨rfl,hb2⟩
   have hB2:=hB1.trans (hb2.mono hB1.size)
   have F2:=stay hb2 F1
   have M2:=stay hb2 M1
   have X2:=stay hb2 X1
   have Z2:=stay hb2 Z1
   have hs2:=hB2.size
   clear f0 f1 x0 x1 lF lX
   have x0:=blk_cell X2 0
   have x1:=blk_cell X2 1
   have lX:=lt_of_block X2
   simp at x0 x1
   clear hb2 F1 M1 X1 Z1 hB1
   have z0:=blk_cell Z2 0
   have z1:=blk_cell Z2 1
   have q0:=blk_free Z2 0
   have q1:=blk_free Z2 1
   have lZ:=lt_of_block Z2
   simp at z0 z1
   go_wp2_with fail
   refine bodyPost_ret (v:=.tuple #[.agg #[.slice la x.locals.length lc,.slice sa x.stack.length sc],.bool false]) (by simp [results,Tryz.results208,go_sem,z0,z1]) rfl ?_
   obtain rfl:=unhide HE
   exact ⟨⟨la,x.locals.length,lc,sa,x.stack.length,sc⟩,rfl,fun y hy=>by simp at hy,(hB2.setCell (by simp; omega) _).setCell (by simp; omega) _⟩
  ·rw [if_neg h2] at hres
   obtain ⟨low,hlow⟩:∃ low:Nat,x.stack.length=low+want.length+1:=⟨x.stack.length - want.length - 1,by omega⟩
   have e0:x.stack.length - want.length - 1=low:=by omega
   rw [e0] at hres
   have hlt:low < x.stack.length:=by omega
   have hgd:x.stack.getD low (0,0)=x.stack[low]:=by simp [List.getD_eq_getElem?_getD,hlt]
   rw [hgd] at hres
   have hrw:=unhide HRAW _ (List.getElem_mem hlt)
   have hsub:(x.stack.length:Int) - (want.length:Int) - 1=(low:Int):=by omega
   have hsubw:IntKind.i64.wrap ((x.stack.length:Int) - (want.length:Int) - 1)=(low:Int):=by rw [hsub]; exact wrap_in _ (by omega) (by omega)
   have hlti:(low:Int) < (x.stack.length:Int):=by omega
   have hlec:(low:Int)≤(sc:Int):=by omega
   obtain ⟨gs,os,rfl,hgs,hat⟩:=hst.at (by omega)
   obtain ⟨s0,s1⟩:=hat low hlt
   generalize x.stack[low]=raw at *
   obtain ⟨k1,k2⟩:=raw
   simp only at s0 s1 hres hrw
   have S0:Hid (∀ w',Below w.heap.size w w'→w'.cell? ⟨gs,os+low * 2,none⟩=some (.int .i64 k1)∧w'.cell? ⟨gs,os+low * 2+1,none⟩=some (.int .i64 k2)∧gs < w'.heap.size):=fun w' h=>⟨(h.cell hgs).trans s0,(h.cell hgs).trans s1,Nat.lt_of_lt_of_le hgs h.size⟩
   clear s0 s1 hat e0 hgd h2 hlow hgs
   by_cases h3:k1=4
   ·subst h3
    rw [if_neg (by simp)] at hres
    obtain ⟨hk0,hk1⟩:=hrw rfl
    obtain ⟨q,rfl⟩:=Int.eq_ofNat_of_zero_le hk0
    have hq:q < code.size:=by omega
    obtain ⟨A,hA⟩:∃ A,Rf.at' code.data.toList ((q:Int)+1)=A:=⟨_,rfl⟩
    simp only [hA] at hres
    have hAR:=fun w'=>unhide HAR q w' hq
    rw [hA] at hAR
    have HA2:=hide hAR
    clear hA hAR hk0 hk1 hrw HAR
    by_cases h4:A=(c:Int)
    ·subst h4
     rw [if_neg (by simp)] at hres
     have HE:=hide hres.symm
     clear hres
     go_enter Tryz.func208,Tryz.ntmps208
     go_wp2_with fail
     refine (unhide HAL _ hB0).mono ?_
     rintro e w1 ⟨wa,wc,rfl,hwt,hb1⟩
     have hB1:=hB0.trans (hb1.mono hB0.size)
     have F1:=stay hb1 F0
     have M1:=stay hb1 M0
     have X1:=stay hb1 X0
     have Z1:=stay hb1 Z0
     have f0:=blk_cell F1 0
     have f1:=blk_cell F1 1
     have x0:=blk_cell X1 0
     have x1:=blk_cell X1 1
     have lF:=lt_of_block F1
     have lX:=lt_of_block X1
     simp at f0 f1 x0 x1
     clear hb1 F0 M0 X0 Z0 hB0
     go_wp2_with fail
     refine (unhide HTW wa want.length wc _ hB1 (TyR.of_tys hwt)).mono ?_
     rintro e w2 ⟨rfl,hb2⟩
     have hB2:=hB1.trans (hb2.mono hB1.size)
     have F2:=stay hb2 F1
     have M2:=stay hb2 M1
     have X2:=stay hb2 X1
     have Z2:=stay hb2 Z1
     have hs2:=hB2.size
     clear f0 f1 x0 x1 lF lX
     have x0:=blk_cell X2 0
     have x1:=blk_cell X2 1
     have lX:=lt_of_block X2
     simp at x0 x1
     clear hb2 F1 M1 X1 Z1 hB1
     obtain ⟨s0,s1,hgs⟩:=unhide S0 _ hB2
     have hs2':=hB2.size
     have R2:=alloc_blk w2 (.cells #[.int .i64 4,.int .i64 (q:Int)] 48)
     have hB2':=hB2.alloc hs2' (.cells #[.int .i64 4,.int .i64 (q:Int)] 48)
     have F2':=stay1 F2 (.cells #[.int .i64 4,.int .i64 (q:Int)] 48)
     have M2':=stay1 M2 (.cells #[.int .i64 4,.int .i64 (q:Int)] 48)
     have X2':=stay1 X2 (.cells #[.int .i64 4,.int .i64 (q:Int)] 48)
     have Z2':=stay1 Z2 (.cells #[.int .i64 4,.int .i64 (q:Int)] 48)
     have lM:=lt_of_block M2
     have m0:=blk_cell M2 0
     have m1:=blk_cell M2 1
     have m2:=blk_cell M2 2
     have m3:=blk_cell M2 3
     have m4:=blk_cell M2 4
     have m5:=blk_cell M2 5
     have m6:=blk_cell M2 6
     have m7:=blk_cell M2 7
     have m8:=blk_cell M2 8
     have m9:=blk_cell M2 9
     have m10:=blk_cell M2 10
     have m11:=blk_cell M2 11
     simp at m0 m1 m2 m3 m4 m5 m6 m7 m8 m9 m10 m11
     go_wp2_with fail
     refine (unhide HA2 _).mono ?_
     rintro e w3 ⟨rfl,hb3⟩
     have hB3:=hB2'.trans (hb3.mono hB2'.size)
     have R3:=stay hb3 R2
     have X3:=stay hb3 X2'
     have Z3:=stay hb3 Z2'
     have hs3:=hB3.size
     clear m0 m1 m2 m3 m4 m5 m6 m7 m8 m9 m10 m11 lM x0 x1 lX s0 s1 hb3 F2 M2 X2 Z2 F2' M2' X2' Z2' R2 hB2' hs2 hs2' hB2
     have x0:=blk_cell X3 0
     have x1:=blk_cell X3 1
     have lX:=lt_of_block X3
     have lR:=lt_of_block R3
     simp at x0 x1
     have rr0:=blk_cell R3 0
     have rr1:=blk_cell R3 1
     simp at rr0 rr1
     go_wp2_with fail
     refine (rref_any (c:Int) _).mono ?_
     rintro e w4 ⟨rfl,hb4⟩
     have hB4:=hB3.trans (hb4.mono hs3)
     have hs4:=hB4.size
     have O4:=alloc_blk w4 (.cells #[.int .i64 3,.int .i64 (c:Int)] 48)
     have hB4':=hB4.alloc hs4 (.cells #[.int .i64 3,.int .i64 (c:Int)] 48)
     have R4:=stay1 (stay hb4 R3) (.cells #[.int .i64 3,.int .i64 (c:Int)] 48)
     have X4:=stay1 (stay hb4 X3) (.cells #[.int .i64 3,.int .i64 (c:Int)] 48)
     have Z4:=stay1 (stay hb4 Z3) (.cells #[.int .i64 3,.int .i64 (c:Int)] 48)
     have lz4:w.heap.size+1+1+1 < (w4.alloc (.cells #[.int .i64 3,.int .i64 (c:Int)] 48)).heap.size:=lt_of_block Z4
     have R4':=stay hb4 R3
     have X4':=stay hb4 X3
     clear rr0 rr1 x0 x1 lX lR hb4 R3 X3 Z3 hB3 hs3
     have x0:=blk_cell X4' 0
     have rr0:=blk_cell R4' 0
     have rr1:=blk_cell R4' 1
     have lX:=lt_of_block X4'
     have lR:=lt_of_block R4'
     simp at x0 rr0 rr1
     go_wp2_with fail
     refine (rturned_any x.locals la x.locals.length lc 4 (q:Int) 3 (c:Int) _ (hlo.below hB4') (by omega)).mono ?_
     rintro e w5 ⟨ta,tc,rfl,ht5,hb5⟩
     have hB5:=hB4'.trans (hb5.mono hB4'.size)
     have hs5:=hB5.size
     have R5:=stay hb5 R4
     have X5:=stay hb5 X4
     have Z5:=stay hb5 Z4
     have O5:=stay hb5 O4
     clear x0 rr0 rr1 lX lR hb5 R4 X4 Z4 O4 R4' X4' hB4 hB4' hs4
     have x1:=blk_cell X5 1
     have r0:=blk_cell R5 0
     have r1':=blk_cell R5 1
     have o0:=blk_cell O5 0
     have o1:=blk_cell O5 1
     have lX:=lt_of_block X5
     have lR:=lt_of_block R5
     have lO:=lt_of_block O5
     simp at x1 r0 r1' o0 o1
     have htk:=(hst.below hB5.drew).take (k:=low) (by omega)
     have htl:(x.stack.take low).length=low:=by simp; omega
     have hc6:=rturned_any (x.stack.take low) (some ⟨gs,os,none⟩) low sc 4 (q:Int) 3 (c:Int) w5.drew htk (by omega)
     rw [htl] at hc6
     have HC6:=hide hc6
     clear hc6 htk htl
     go_wp2
     go_region_held3 (fun w'=>w'.cell? ⟨w.heap.size+1+1,1,none⟩=some (.slice (some ⟨gs,os,none⟩) x.stack.length sc)∧w'.cell? ⟨w2.heap.size,0,none⟩=some (.int .i64 4)∧w'.cell? ⟨w2.heap.size,1,none⟩=some (.int .i64 (q:Int))∧w'.cell? ⟨w4.heap.size,0,none⟩=some (.int .i64 3)∧w'.cell? ⟨w4.heap.size,1,none⟩=some (.int .i64 (c:Int)))
      (first | exact ⟨x1,r0,r1',o0,o1⟩ | exact ⟨(hb7.cell lX).trans x1,(hb7.cell lR).trans r0,(hb7.cell lR).trans r1',(hb7.cell lO).trans o0,(hb7.cell lO).trans o1⟩)
      (first | (go_at_call 207; refine (unhide HC6).mono ?_; rintro e w7 ⟨ua,uc,rfl,ht7,hb7⟩))
     have hB7:=hB5.drew.trans (hb7.mono hs5)
     have lz5:w.heap.size+1+1+1 < w5.heap.size:=lt_of_block Z5
     have ht5':=TysAt.kp ht5 (Kp.of_below (e:=none) (show Below w5.heap.size w5 w7 from (Below.refl _ _).drew.trans hb7)) (by decide)
     have hk8:=fun base (hb:w.heap.size+1+1+1 < base)=>(Kp.set_lo (e:=none) (b:=base) (i:=0) (g:=w.heap.size+1+1+1) (w:=w7) hb (.slice ta x.locals.length tc)).trans (Kp.set_lo (i:=1) (g:=w.heap.size+1+1+1) hb (.slice ua low uc))
     have ht5'':=TysAt.kp ht5' (hk8 _ lz4) (by decide)
     have ht7'':=TysAt.kp ht7 (hk8 _ lz5) (by decide)
     have Z7:=stay hb7 (show (w5.drew).heap[w.heap.size+1+1+1]?=_ from Z5)
     clear x1 r0 r1' o0 o1 lX lR lO hb7 R5 X5 Z5 O5 ht5 ht7 ht5' hk8 hB5 HC6
     have z0:=blk_cell Z7 0
     have z1:=blk_cell Z7 1
     have q0:=blk_free Z7 0
     have q1:=blk_free Z7 1
     have lZ:=lt_of_block Z7
     simp at z0 z1
     have hB8:=(hB7.setCell (p:=⟨w.heap.size+1+1+1,0,none⟩) (by simp; omega) (.slice ta x.locals.length tc)).setCell (p:=⟨w.heap.size+1+1+1,1,none⟩) (by simp; omega) (.slice ua low uc)
     go_wp2_with fail
     refine bodyPost_ret (v:=.tuple #[.agg #[.slice ta x.locals.length tc,.slice ua low uc],.bool true]) (by simp [results,Tryz.results208,go_sem,z0,z1]) rfl ?_
     obtain rfl:=unhide HE
     refine ⟨⟨ta,x.locals.length,tc,ua,low,uc⟩,rfl,fun y hy=>?_,hB8⟩
     simp only [Option.some.injEq] at hy
     subst hy
     exact ⟨own_tyr ht5'' (by simp [Ck.turned]),own_tyr ht7'' (by simp [Ck.turned]),by simp [Ck.turned]; omega,by simp [Ck.turned]; omega⟩
    ·rw [if_pos h4] at hres
     have HE:=hide hres.symm
     have h4':(A != (c:Int))=true:=by simpa using h4
     clear hres h4
     go_enter Tryz.func208,Tryz.ntmps208
     go_wp2_with fail
     refine (unhide HAL _ hB0).mono ?_
     rintro e w1 ⟨wa,wc,rfl,hwt,hb1⟩
     have hB1:=hB0.trans (hb1.mono hB0.size)
     have F1:=stay hb1 F0
     have M1:=stay hb1 M0
     have X1:=stay hb1 X0
     have Z1:=stay hb1 Z0
     have f0:=blk_cell F1 0
     have f1:=blk_cell F1 1
     have x0:=blk_cell X1 0
     have x1:=blk_cell X1 1
     have lF:=lt_of_block F1
     have lX:=lt_of_block X1
     simp at f0 f1 x0 x1
     clear hb1 F0 M0 X0 Z0 hB0
     go_wp2_with fail
     refine (unhide HTW wa want.length wc _ hB1 (TyR.of_tys hwt)).mono ?_
     rintro e w2 ⟨rfl,hb2⟩
     have hB2:=hB1.trans (hb2.mono hB1.size)
     have F2:=stay hb2 F1
     have M2:=stay hb2 M1
     have X2:=stay hb2 X1
     have Z2:=stay hb2 Z1
     have hs2:=hB2.size
     clear f0 f1 x0 x1 lF lX
     have x0:=blk_cell X2 0
     have x1:=blk_cell X2 1
     have lX:=lt_of_block X2
     simp at x0 x1
     clear hb2 F1 M1 X1 Z1 hB1
     obtain ⟨s0,s1,hgs⟩:=unhide S0 _ hB2
     have hs2':=hB2.size
     have R2:=alloc_blk w2 (.cells #[.int .i64 4,.int .i64 (q:Int)] 48)
     have hB2':=hB2.alloc hs2' (.cells #[.int .i64 4,.int .i64 (q:Int)] 48)
     have F2':=stay1 F2 (.cells #[.int .i64 4,.int .i64 (q:Int)] 48)
     have M2':=stay1 M2 (.cells #[.int .i64 4,.int .i64 (q:Int)] 48)
     have X2':=stay1 X2 (.cells #[.int .i64 4,.int .i64 (q:Int)] 48)
     have Z2':=stay1 Z2 (.cells #[.int .i64 4,.int .i64 (q:Int)] 48)
     have lM:=lt_of_block M2
     have m0:=blk_cell M2 0
     have m1:=blk_cell M2 1
     have m2:=blk_cell M2 2
     have m3:=blk_cell M2 3
     have m4:=blk_cell M2 4
     have m5:=blk_cell M2 5
     have m6:=blk_cell M2 6
     have m7:=blk_cell M2 7
     have m8:=blk_cell M2 8
     have m9:=blk_cell M2 9
     have m10:=blk_cell M2 10
     have m11:=blk_cell M2 11
     simp at m0 m1 m2 m3 m4 m5 m6 m7 m8 m9 m10 m11
     go_wp2_with fail
     refine (unhide HA2 _).mono ?_
     rintro e w3 ⟨rfl,hb3⟩
     have hB3:=hB2'.trans (hb3.mono hB2'.size)
     have R3:=stay hb3 R2
     have X3:=stay hb3 X2'
     have Z3:=stay hb3 Z2'
     have hs3:=hB3.size
     clear m0 m1 m2 m3 m4 m5 m6 m7 m8 m9 m10 m11 lM x0 x1 lX s0 s1 hb3 F2 M2 X2 Z2 F2' M2' X2' Z2' R2 hB2' hs2 hs2' hB2
     have x0:=blk_cell X3 0
     have x1:=blk_cell X3 1
     have lX:=lt_of_block X3
     have lR:=lt_of_block R3
     simp at x0 x1
     have z0:=blk_cell Z3 0
     have z1:=blk_cell Z3 1
     have q0:=blk_free Z3 0
     have q1:=blk_free Z3 1
     have lZ:=lt_of_block Z3
     simp at z0 z1
     go_wp2_with fail
     refine bodyPost_ret (v:=.tuple #[.agg #[.slice la x.locals.length lc,.slice (some ⟨gs,os,none⟩) x.stack.length sc],.bool false]) (by simp [results,Tryz.results208,go_sem,z0,z1]) rfl ?_
     obtain rfl:=unhide HE
     exact ⟨⟨la,x.locals.length,lc,some ⟨gs,os,none⟩,x.stack.length,sc⟩,rfl,fun y hy=>by simp at hy,(hB3.setCell (by simp; omega) _).setCell (by simp; omega) _⟩
   ·rw [if_pos h3] at hres
    have HE:=hide hres.symm
    have h3':(k1 != 4)=true:=by simpa using h3
    clear hres h3 hrw
    go_enter Tryz.func208,Tryz.ntmps208
    go_wp2_with fail
    refine (unhide HAL _ hB0).mono ?_
    rintro e w1 ⟨wa,wc,rfl,hwt,hb1⟩
    have hB1:=hB0.trans (hb1.mono hB0.size)
    have F1:=stay hb1 F0
    have M1:=stay hb1 M0
    have X1:=stay hb1 X0
    have Z1:=stay hb1 Z0
    have f0:=blk_cell F1 0
    have f1:=blk_cell F1 1
    have x0:=blk_cell X1 0
    have x1:=blk_cell X1 1
    have lF:=lt_of_block F1
    have lX:=lt_of_block X1
    simp at f0 f1 x0 x1
    clear hb1 F0 M0 X0 Z0 hB0
    go_wp2_with fail
    refine (unhide HTW wa want.length wc _ hB1 (TyR.of_tys hwt)).mono ?_
    rintro e w2 ⟨rfl,hb2⟩
    have hB2:=hB1.trans (hb2.mono hB1.size)
    have F2:=stay hb2 F1
    have M2:=stay hb2 M1
    have X2:=stay hb2 X1
    have Z2:=stay hb2 Z1
    have hs2:=hB2.size
    clear f0 f1 x0 x1 lF lX
    have x0:=blk_cell X2 0
    have x1:=blk_cell X2 1
    have lX:=lt_of_block X2
    simp at x0 x1
    clear hb2 F1 M1 X1 Z1 hB1
    obtain ⟨s0,s1,hgs⟩:=unhide S0 _ hB2
    have z0:=blk_cell Z2 0
    have z1:=blk_cell Z2 1
    have q0:=blk_free Z2 0
    have q1:=blk_free Z2 1
    have lZ:=lt_of_block Z2
    simp at z0 z1
    go_wp2_with fail
    refine bodyPost_ret (v:=.tuple #[.agg #[.slice la x.locals.length lc,.slice (some ⟨gs,os,none⟩) x.stack.length sc],.bool false]) (by simp [results,Tryz.results208,go_sem,z0,z1,lZ]) rfl ?_
    obtain rfl:=unhide HE
    exact ⟨⟨la,x.locals.length,lc,some ⟨gs,os,none⟩,x.stack.length,sc⟩,rfl,fun y hy=>by simp at hy,((hB2.setCell (by simp; omega) _).setCell (by simp; omega) _).alloc (by simp; omega) _⟩
end Go.Proofs.YteffpdofcgbokaaGreat
