/-
  The walk over faults.inHeads.
-/
import Derived.Deep.RegionHeld
import Derived.Test.YteffpdofcgbokaaGreatPk07

namespace Go.Proofs.YteffpdofcgbokaaGreat
open Go.RowKit
variable {ya:Option Addr}{yn yc:Nat}

theorem own_cap {b size n:Nat}{e:TypeId}{a:Option Addr}{m c:Nat}{xs:List Value}{w:World} (h:w.ownsRow b e size (.slice a m c) n xs):n≤c:=by
 obtain ⟨_,⟨h1,h2⟩ | ⟨g,cap,cur,h3,h4,h5,h6,_⟩⟩:=h
 ·omega
 ·simp only [Value.slice.injEq] at h3
  omega

def Pf.hres (q:Int):Int × Int:=if 0≤q then (4,q) else (0,0)
theorem Pf.hres_ok {q:Int} (h:0≤q):Pf.hres q=(4,q):=if_pos h

set_option maxRecDepth 100000 in
set_option maxHeartbeats 40000000 in
theorem inHeads_any (fa1 fa2:Option Addr) (fl1 fc1 fc2:Nat) (lms:List (Rd.Mth × MthV)) (T:List Int) (tg cap bm:Nat) (w:World) (hT:T.length≤1000) (hTr:TreeIn w tg T)
  (hm6:lms.length≤6) (hms:MthsIn w bm (.slice fa2 lms.length fc2) lms) (hpl:∀ p∈lms,p.1.params.length≤1000) :
  Calls Tryz.prog 70 #[.agg #[.slice fa1 fl1 fc1,.slice fa2 lms.length fc2],.agg #[.slice (some ⟨tg,0,none⟩) T.length cap,.slice ya yn yc]] w fun e w' =>
   e=.returned (.agg #[.int .i64 (Pf.hres (Pf.heads T (lms.map Prod.fst) 0 (lms.map Prod.fst))).1,.int .i64 (Pf.hres (Pf.heads T (lms.map Prod.fst) 0 (lms.map Prod.fst))).2,.int .i64 0])∧Below w.heap.size w w':=by
 generalize hq:Pf.heads T (lms.map Prod.fst) 0 (lms.map Prod.fst)=q
 have HQ:Hid (Pf.heads T (lms.map Prod.fst) 0 ((lms.map Prod.fst).drop 0)=q):=hq
 clear hq
 have hB0:=below3 w (.cells #[.slice fa1 fl1 fc1,.slice fa2 lms.length fc2] 38) (.cells #[.slice (some ⟨tg,0,none⟩) T.length cap,.slice ya yn yc] 87) (.cells #[.int .i64 0,.int .i64 0,.int .i64 0] 40)
 have C0:=blks3 w (.cells #[.slice fa1 fl1 fc1,.slice fa2 lms.length fc2] 38) (.cells #[.slice (some ⟨tg,0,none⟩) T.length cap,.slice ya yn yc] 87) (.cells #[.int .i64 0,.int .i64 0,.int .i64 0] 40)
 go_enter Tryz.func70,Tryz.ntmps70
 go_wp2
 go_loopw [10] (fun v wr=>∃ k:Nat,k≤lms.length∧v=.int .i64 (k:Int)∧Hid (Pf.heads T (lms.map Prod.fst) k ((lms.map Prod.fst).drop k)=q)∧Below w.heap.size w wr∧wr.heap[w.heap.size]?=some (.cells #[.slice fa1 fl1 fc1,.slice fa2 lms.length fc2] 38 (0,0)) ∧
   wr.heap[w.heap.size+1]?=some (.cells #[.slice (some ⟨tg,0,none⟩) T.length cap,.slice ya yn yc] 87 (0,0))∧wr.heap[w.heap.size+1+1]?=some (.cells #[.int .i64 0,.int .i64 0,.int .i64 0] 40 (0,0)))
  (fun v _=>lms.length - (intOf v).toNat)
 case atStart=>exact ⟨0,by omega,rfl,HQ,hB0,C0.1,C0.2.1,C0.2.2⟩
 case round =>
  clear HQ hB0 C0
  obtain ⟨k,hk,rfl,HQ,hB,CF,CT,CR⟩:=hrel
  have hBs:=hB.size
  by_cases hkn:k < lms.length
  ·have hmr:MthsIn wr bm (.slice fa2 lms.length fc2) lms:=hms.kp (Kp.of_below (e:=none) hB) (by decide) (by decide) (by decide) (by decide) (by decide)
   have kc:=own_cap hmr.1
   obtain ⟨o,g,hg,hglt,hrow,his⟩:=hmr.mth hkn
   replace hrow:=row10 hrow
   have hpo:=hpl _ (List.getElem_mem hkn)
   have hd:(lms.map Prod.fst).drop k=lms[k].1 :: (lms.map Prod.fst).drop (k+1):=by
    rw [List.drop_eq_getElem_cons (by simpa using hkn)]
    simp
   have hr:=unhide HQ
   rw [hd,Pf.heads] at hr
   unfold Pf.headBad at hr
   have hHM:=fun w' (h:Below wr.heap.size wr w')=>headMay_any (ya:=ya) (yn:=yn) (yc:=yc) T (some ⟨tg,0,none⟩) cap bm o lms[k].1 w' (his.below h) hpo
   have hBR:=fun w' (h:Below wr.heap.size wr w')=>breaksHeir_any (ya:=ya) (yn:=yn) (yc:=yc) fa1 fa2 fl1 fc1 fc2 lms T tg cap bm o lms[k].1 w' (his.below h) hT (hTr.below (hB.trans (h.mono hBs))) hm6 (hmr.kp (Kp.of_below (e:=none) h) (by decide) (by decide) (by decide) (by decide) (by decide)) hpo hpl
   have hlen:((lms.map Prod.fst).take k).length=k:=by simp; omega
   have hTW:=fun w' (h:Below wr.heap.size wr w')=>isTwin_any ((lms.map Prod.fst).take k) fa2 fc2 o lms[k].1 w' his.cl his.nm (by omega) (by
    intro w'' h'' j hj
    have hj':j < lms.length:=by omega
    have hb'':=h.trans (h''.mono h.size)
    obtain ⟨o',g',hg',hglt',hrow',his'⟩:=(hmr.kp (Kp.of_below (e:=none) hb'') (by decide) (by decide) (by decide) (by decide) (by decide)).mth hj'
    refine ⟨o',g',hg',hglt',hrow',?_,?_⟩
    ·rw [his'.cl]; simp
    ·rw [his'.nm]; simp)
   rw [hlen] at hTW
   clear his hmr hd hlen
   generalize Pf.headMay T lms[k].1=A at *
   generalize Pf.isTwin ((lms.map Prod.fst).take k) lms[k].1=B at *
   generalize Pf.breaksHeir T (lms.map Prod.fst) lms[k].1=C at *
   obtain ⟨cl,nm,pa,pl,pc,r1,r2,lo,st,ca,cn,cc,ha,hl,hc,ma,ml,mc⟩:=o
   simp only [PM.val] at hrow hHM hTW hBR
   obtain ⟨y0,y1,y2,y3,y4,y5,y6,y7,y8,y9⟩:=hrow
   subst hg
   have HHM:=hide hHM
   have HTW:=hide hTW
   have HBR:=hide hBR
   clear hHM hTW hBR HQ
   have hX1:Below wr.heap.size wr (wr.alloc (.cells #[.int .i64 cl,.int .i64 nm,.slice pa pl pc,.int .i64 r1,.int .i64 r2,.int .i64 lo,.int .i64 st,.slice ca cn cc,.slice ha hl hc,.slice ma ml mc] 92)):=(Below.refl _ _).alloc (Nat.le_refl _) _
   have CM1:=alloc_blk wr (.cells #[.int .i64 cl,.int .i64 nm,.slice pa pl pc,.int .i64 r1,.int .i64 r2,.int .i64 lo,.int .i64 st,.slice ca cn cc,.slice ha hl hc,.slice ma ml mc] 92)
   have CF1:=stay1 CF (.cells #[.int .i64 cl,.int .i64 nm,.slice pa pl pc,.int .i64 r1,.int .i64 r2,.int .i64 lo,.int .i64 st,.slice ca cn cc,.slice ha hl hc,.slice ma ml mc] 92)
   have CT1:=stay1 CT (.cells #[.int .i64 cl,.int .i64 nm,.slice pa pl pc,.int .i64 r1,.int .i64 r2,.int .i64 lo,.int .i64 st,.slice ca cn cc,.slice ha hl hc,.slice ma ml mc] 92)
   have f0:(wr.alloc (.cells #[.int .i64 cl,.int .i64 nm,.slice pa pl pc,.int .i64 r1,.int .i64 r2,.int .i64 lo,.int .i64 st,.slice ca cn cc,.slice ha hl hc,.slice ma ml mc] 92)).cell? ⟨w.heap.size,0,none⟩=some (.slice fa1 fl1 fc1):=(blk_cell CF1 0).trans rfl
   have f1:(wr.alloc (.cells #[.int .i64 cl,.int .i64 nm,.slice pa pl pc,.int .i64 r1,.int .i64 r2,.int .i64 lo,.int .i64 st,.slice ca cn cc,.slice ha hl hc,.slice ma ml mc] 92)).cell? ⟨w.heap.size,1,none⟩=some (.slice (some ⟨g,0,none⟩) lms.length fc2):=(blk_cell CF1 1).trans rfl
   have t0:(wr.alloc (.cells #[.int .i64 cl,.int .i64 nm,.slice pa pl pc,.int .i64 r1,.int .i64 r2,.int .i64 lo,.int .i64 st,.slice ca cn cc,.slice ha hl hc,.slice ma ml mc] 92)).cell? ⟨w.heap.size+1,0,none⟩=some (.slice (some ⟨tg,0,none⟩) T.length cap):=(blk_cell CT1 0).trans rfl
   have t1:(wr.alloc (.cells #[.int .i64 cl,.int .i64 nm,.slice pa pl pc,.int .i64 r1,.int .i64 r2,.int .i64 lo,.int .i64 st,.slice ca cn cc,.slice ha hl hc,.slice ma ml mc] 92)).cell? ⟨w.heap.size+1,1,none⟩=some (.slice ya yn yc):=(blk_cell CT1 1).trans rfl
   have m0:(wr.alloc (.cells #[.int .i64 cl,.int .i64 nm,.slice pa pl pc,.int .i64 r1,.int .i64 r2,.int .i64 lo,.int .i64 st,.slice ca cn cc,.slice ha hl hc,.slice ma ml mc] 92)).cell? ⟨wr.heap.size,0,none⟩=some (.int .i64 cl):=(blk_cell CM1 0).trans rfl
   have m1:(wr.alloc (.cells #[.int .i64 cl,.int .i64 nm,.slice pa pl pc,.int .i64 r1,.int .i64 r2,.int .i64 lo,.int .i64 st,.slice ca cn cc,.slice ha hl hc,.slice ma ml mc] 92)).cell? ⟨wr.heap.size,1,none⟩=some (.int .i64 nm):=(blk_cell CM1 1).trans rfl
   have m2:(wr.alloc (.cells #[.int .i64 cl,.int .i64 nm,.slice pa pl pc,.int .i64 r1,.int .i64 r2,.int .i64 lo,.int .i64 st,.slice ca cn cc,.slice ha hl hc,.slice ma ml mc] 92)).cell? ⟨wr.heap.size,2,none⟩=some (.slice pa pl pc):=(blk_cell CM1 2).trans rfl
   have m3:(wr.alloc (.cells #[.int .i64 cl,.int .i64 nm,.slice pa pl pc,.int .i64 r1,.int .i64 r2,.int .i64 lo,.int .i64 st,.slice ca cn cc,.slice ha hl hc,.slice ma ml mc] 92)).cell? ⟨wr.heap.size,3,none⟩=some (.int .i64 r1):=(blk_cell CM1 3).trans rfl
   have m4:(wr.alloc (.cells #[.int .i64 cl,.int .i64 nm,.slice pa pl pc,.int .i64 r1,.int .i64 r2,.int .i64 lo,.int .i64 st,.slice ca cn cc,.slice ha hl hc,.slice ma ml mc] 92)).cell? ⟨wr.heap.size,4,none⟩=some (.int .i64 r2):=(blk_cell CM1 4).trans rfl
   have m5:(wr.alloc (.cells #[.int .i64 cl,.int .i64 nm,.slice pa pl pc,.int .i64 r1,.int .i64 r2,.int .i64 lo,.int .i64 st,.slice ca cn cc,.slice ha hl hc,.slice ma ml mc] 92)).cell? ⟨wr.heap.size,5,none⟩=some (.int .i64 lo):=(blk_cell CM1 5).trans rfl
   have m6:(wr.alloc (.cells #[.int .i64 cl,.int .i64 nm,.slice pa pl pc,.int .i64 r1,.int .i64 r2,.int .i64 lo,.int .i64 st,.slice ca cn cc,.slice ha hl hc,.slice ma ml mc] 92)).cell? ⟨wr.heap.size,6,none⟩=some (.int .i64 st):=(blk_cell CM1 6).trans rfl
   have m7:(wr.alloc (.cells #[.int .i64 cl,.int .i64 nm,.slice pa pl pc,.int .i64 r1,.int .i64 r2,.int .i64 lo,.int .i64 st,.slice ca cn cc,.slice ha hl hc,.slice ma ml mc] 92)).cell? ⟨wr.heap.size,7,none⟩=some (.slice ca cn cc):=(blk_cell CM1 7).trans rfl
   have m8:(wr.alloc (.cells #[.int .i64 cl,.int .i64 nm,.slice pa pl pc,.int .i64 r1,.int .i64 r2,.int .i64 lo,.int .i64 st,.slice ca cn cc,.slice ha hl hc,.slice ma ml mc] 92)).cell? ⟨wr.heap.size,8,none⟩=some (.slice ha hl hc):=(blk_cell CM1 8).trans rfl
   have m9:(wr.alloc (.cells #[.int .i64 cl,.int .i64 nm,.slice pa pl pc,.int .i64 r1,.int .i64 r2,.int .i64 lo,.int .i64 st,.slice ca cn cc,.slice ha hl hc,.slice ma ml mc] 92)).cell? ⟨wr.heap.size,9,none⟩=some (.slice ma ml mc):=(blk_cell CM1 9).trans rfl
   have lF:w.heap.size < (wr.alloc (.cells #[.int .i64 cl,.int .i64 nm,.slice pa pl pc,.int .i64 r1,.int .i64 r2,.int .i64 lo,.int .i64 st,.slice ca cn cc,.slice ha hl hc,.slice ma ml mc] 92)).heap.size:=lt_of_block CF1
   have lT:w.heap.size+1 < (wr.alloc (.cells #[.int .i64 cl,.int .i64 nm,.slice pa pl pc,.int .i64 r1,.int .i64 r2,.int .i64 lo,.int .i64 st,.slice ca cn cc,.slice ha hl hc,.slice ma ml mc] 92)).heap.size:=lt_of_block CT1
   have lM:wr.heap.size < (wr.alloc (.cells #[.int .i64 cl,.int .i64 nm,.slice pa pl pc,.int .i64 r1,.int .i64 r2,.int .i64 lo,.int .i64 st,.slice ca cn cc,.slice ha hl hc,.slice ma ml mc] 92)).heap.size:=lt_of_block CM1
   have kb:(k:Int) < (lms.length:Int):=by omega
   have kc':(k:Int)≤(fc2:Int):=by omega
   have x0:=blk_cell CF 1
   simp at x0
   cases A with
   | false =>
    have HE:Hid (q=(k:Int)):=by unfold Hid; rw [← hr]; simp
    clear hr
    go_wp2
    refine wp_region_held_drew (S:=(fun w'=>w'.cell? ⟨w.heap.size,0,none⟩=some (.slice fa1 fl1 fc1)∧w'.cell? ⟨w.heap.size,1,none⟩=some (.slice (some ⟨g,0,none⟩) lms.length fc2)∧w'.cell? ⟨w.heap.size+1,0,none⟩=some (.slice (some ⟨tg,0,none⟩) T.length cap)∧w'.cell? ⟨w.heap.size+1,1,none⟩=some (.slice ya yn yc)∧w'.cell? ⟨wr.heap.size,0,none⟩=some (.int .i64 cl)∧w'.cell? ⟨wr.heap.size,1,none⟩=some (.int .i64 nm)∧w'.cell? ⟨wr.heap.size,2,none⟩=some (.slice pa pl pc)∧w'.cell? ⟨wr.heap.size,3,none⟩=some (.int .i64 r1)∧w'.cell? ⟨wr.heap.size,4,none⟩=some (.int .i64 r2)∧w'.cell? ⟨wr.heap.size,5,none⟩=some (.int .i64 lo)∧w'.cell? ⟨wr.heap.size,6,none⟩=some (.int .i64 st)∧w'.cell? ⟨wr.heap.size,7,none⟩=some (.slice ca cn cc)∧w'.cell? ⟨wr.heap.size,8,none⟩=some (.slice ha hl hc)∧w'.cell? ⟨wr.heap.size,9,none⟩=some (.slice ma ml mc))) (by kernel_rfl) ⟨f0,f1,t0,t1,m0,m1,m2,m3,m4,m5,m6,m7,m8,m9⟩ (fun hHeld=>?_)
    refine wpAnyH_take (i:=0) (oi:=⟨_,_,_,_,_,_⟩) (v:=.agg #[.slice (some ⟨tg,0,none⟩) T.length cap,.slice ya yn yc]) rfl (by kernel_rfl) (by kernel_rfl) (by kernel_rfl) (fun _ _ _ h=>h) (Or.inl ⟨by rfl,?_⟩) hHeld ?_
    ·intro w' hSw
     try dsimp only at hSw
     go_simp
    try simp only [Act.put,List.setIfInBounds_toArray,List.set_cons_zero,List.set_cons_succ]
    refine wpAnyH_take (i:=1) (oi:=⟨_,_,_,_,_,_⟩) (v:=.agg #[.int .i64 cl,.int .i64 nm,.slice pa pl pc,.int .i64 r1,.int .i64 r2,.int .i64 lo,.int .i64 st,.slice ca cn cc,.slice ha hl hc,.slice ma ml mc]) rfl (by kernel_rfl) (by kernel_rfl) (by kernel_rfl) (fun _ _ _ h=>h) (Or.inl ⟨by rfl,?_⟩) hHeld ?_
    ·intro w' hSw
     try dsimp only at hSw
     go_simp
    try simp only [Act.put,List.setIfInBounds_toArray,List.set_cons_zero,List.set_cons_succ]
    refine wpAnyH_ready (rs:=[2]) (by kernel_rfl) (by simp) ?_
    refine AllReadyH.cons (o:=⟨_,_,_,_,_,_⟩) rfl (fun K hK=>?_) AllReadyH.nil
    go_simp
    refine (unhide HHM _ hX1.drew).mono ?_
    rintro e w7 ⟨rfl,hb7⟩
    try dsimp only
    clear hHeld
    refine hK.out _ _ ⟨(hb7.cell lF).trans f0,(hb7.cell lF).trans f1,(hb7.cell lT).trans t0,(hb7.cell lT).trans t1,(hb7.cell lM).trans m0,(hb7.cell lM).trans m1,(hb7.cell lM).trans m2,(hb7.cell lM).trans m3,(hb7.cell lM).trans m4,(hb7.cell lM).trans m5,(hb7.cell lM).trans m6,(hb7.cell lM).trans m7,(hb7.cell lM).trans m8,(hb7.cell lM).trans m9⟩ (fun hHeld=>?_)
    clear hK K
    try simp only [Act.put,List.setIfInBounds_toArray,List.set_cons_zero,List.set_cons_succ]
    refine wpAnyH_take (i:=3) (oi:=⟨_,_,_,_,_,_⟩) (v:=.bool true) rfl (by kernel_rfl) (by kernel_rfl) (by kernel_rfl) (fun _ _ _ h=>h) (Or.inl ⟨by rfl,?_⟩) hHeld ?_
    ·intro w' hSw
     try dsimp only at hSw
     go_simp
    try simp only [Act.put,List.setIfInBounds_toArray,List.set_cons_zero,List.set_cons_succ]
    refine wpAnyH_take (i:=4) (oi:=⟨_,_,_,_,_,_⟩) (v:=.bool true) rfl (by kernel_rfl) (by kernel_rfl) (by kernel_rfl) (fun _ _ _ h=>h) (Or.inl ⟨by rfl,?_⟩) hHeld ?_
    ·intro w' hSw
     try dsimp only at hSw
     go_simp
    try simp only [Act.put,List.setIfInBounds_toArray,List.set_cons_zero,List.set_cons_succ]
    refine wpAnyH_take (i:=5) (oi:=⟨_,_,_,_,_,_⟩) (v:=undef) rfl (by kernel_rfl) (by kernel_rfl) (by kernel_rfl) (fun _ _ _ h=>h) (Or.inr ⟨by rfl,rfl⟩) hHeld ?_
    try simp only [Act.put,List.setIfInBounds_toArray,List.set_cons_zero,List.set_cons_succ]
    refine wpAnyH_take (i:=6) (oi:=⟨_,_,_,_,_,_⟩) (v:=undef) rfl (by kernel_rfl) (by kernel_rfl) (by kernel_rfl) (fun _ _ _ h=>h) (Or.inr ⟨by rfl,rfl⟩) hHeld ?_
    try simp only [Act.put,List.setIfInBounds_toArray,List.set_cons_zero,List.set_cons_succ]
    refine wpAnyH_take (i:=7) (oi:=⟨_,_,_,_,_,_⟩) (v:=undef) rfl (by kernel_rfl) (by kernel_rfl) (by kernel_rfl) (fun _ _ _ h=>h) (Or.inr ⟨by rfl,rfl⟩) hHeld ?_
    try simp only [Act.put,List.setIfInBounds_toArray,List.set_cons_zero,List.set_cons_succ]
    refine wpAnyH_take (i:=8) (oi:=⟨_,_,_,_,_,_⟩) (v:=undef) rfl (by kernel_rfl) (by kernel_rfl) (by kernel_rfl) (fun _ _ _ h=>h) (Or.inr ⟨by rfl,rfl⟩) hHeld ?_
    try simp only [Act.put,List.setIfInBounds_toArray,List.set_cons_zero,List.set_cons_succ]
    refine wpAnyH_take (i:=9) (oi:=⟨_,_,_,_,_,_⟩) (v:=undef) rfl (by kernel_rfl) (by kernel_rfl) (by kernel_rfl) (fun _ _ _ h=>h) (Or.inr ⟨by rfl,rfl⟩) hHeld ?_
    try simp only [Act.put,List.setIfInBounds_toArray,List.set_cons_zero,List.set_cons_succ]
    refine wpAnyH_take (i:=10) (oi:=⟨_,_,_,_,_,_⟩) (v:=undef) rfl (by kernel_rfl) (by kernel_rfl) (by kernel_rfl) (fun _ _ _ h=>h) (Or.inr ⟨by rfl,rfl⟩) hHeld ?_
    try simp only [Act.put,List.setIfInBounds_toArray,List.set_cons_zero,List.set_cons_succ]
    refine wpAnyH_take (i:=11) (oi:=⟨_,_,_,_,_,_⟩) (v:=.bool true) rfl (by kernel_rfl) (by kernel_rfl) (by kernel_rfl) (fun _ _ _ h=>h) (Or.inl ⟨by rfl,?_⟩) hHeld ?_
    ·intro w' hSw
     try dsimp only at hSw
     go_simp
    try simp only [Act.put,List.setIfInBounds_toArray,List.set_cons_zero,List.set_cons_succ]
    refine wpAnyH_take (i:=12) (oi:=⟨_,_,_,_,_,_⟩) (v:=.bool true) rfl (by kernel_rfl) (by kernel_rfl) (by kernel_rfl) (fun _ _ _ h=>h) (Or.inl ⟨by rfl,?_⟩) hHeld ?_
    ·intro w' hSw
     try dsimp only at hSw
     go_simp
    try simp only [Act.put,List.setIfInBounds_toArray,List.set_cons_zero,List.set_cons_succ]
    refine wpAnyH_take (i:=13) (oi:=⟨_,_,_,_,_,_⟩) (v:=undef) rfl (by kernel_rfl) (by kernel_rfl) (by kernel_rfl) (fun _ _ _ h=>h) (Or.inr ⟨by rfl,rfl⟩) hHeld ?_
    try simp only [Act.put,List.setIfInBounds_toArray,List.set_cons_zero,List.set_cons_succ]
    refine wpAnyH_take (i:=14) (oi:=⟨_,_,_,_,_,_⟩) (v:=undef) rfl (by kernel_rfl) (by kernel_rfl) (by kernel_rfl) (fun _ _ _ h=>h) (Or.inr ⟨by rfl,rfl⟩) hHeld ?_
    try simp only [Act.put,List.setIfInBounds_toArray,List.set_cons_zero,List.set_cons_succ]
    refine wpAnyH_take (i:=15) (oi:=⟨_,_,_,_,_,_⟩) (v:=undef) rfl (by kernel_rfl) (by kernel_rfl) (by kernel_rfl) (fun _ _ _ h=>h) (Or.inr ⟨by rfl,rfl⟩) hHeld ?_
    try simp only [Act.put,List.setIfInBounds_toArray,List.set_cons_zero,List.set_cons_succ]
    refine wpAnyH_take (i:=16) (oi:=⟨_,_,_,_,_,_⟩) (v:=undef) rfl (by kernel_rfl) (by kernel_rfl) (by kernel_rfl) (fun _ _ _ h=>h) (Or.inr ⟨by rfl,rfl⟩) hHeld ?_
    try simp only [Act.put,List.setIfInBounds_toArray,List.set_cons_zero,List.set_cons_succ]
    refine wpAnyH_take (i:=17) (oi:=⟨_,_,_,_,_,_⟩) (v:=.bool true) rfl (by kernel_rfl) (by kernel_rfl) (by kernel_rfl) (fun _ _ _ h=>h) (Or.inl ⟨by rfl,?_⟩) hHeld ?_
    ·intro w' hSw
     try dsimp only at hSw
     go_simp
    try simp only [Act.put,List.setIfInBounds_toArray,List.set_cons_zero,List.set_cons_succ]
    refine wpAnyH_done (by kernel_rfl) ?_ _
    have hX:=(hX1.drew).trans (hb7.mono (Nat.le_of_lt lM))
    have hBn:=hB.trans (hX.mono hBs)
    have CFn:=stay hX CF
    have CTn:=stay hX CT
    have CRn:=stay hX CR
    clear hHeld f0 f1 t0 t1 m0 m1 m2 m3 m4 m5 m6 m7 m8 m9
    have z0:=blk_cell CRn 0
    have z1:=blk_cell CRn 1
    have z2:=blk_cell CRn 2
    have q0:=blk_free CRn 0
    have q1:=blk_free CRn 1
    have q2:=blk_free CRn 2
    have lR:=lt_of_block CRn
    simp at z0 z1 z2
    go_wp2_with fail
    refine bodyPost_ret (v:=.agg #[.int .i64 4,.int .i64 (k:Int),.int .i64 0]) (by simp [results,Tryz.results70,go_sem,z0,z1,z2]) rfl ?_
    rw [unhide HE,Pf.hres_ok (by omega)]
    exact ⟨rfl,((hBn.setCell (by simp; omega) _).setCell (by simp; omega) _).setCell (by simp; omega) _⟩
   | true =>
    cases B with
    | true =>
     have HE:Hid (q=(k:Int)):=by unfold Hid; rw [← hr]; simp
     clear hr
     go_wp2
     refine wp_region_held_drew (S:=(fun w'=>w'.cell? ⟨w.heap.size,0,none⟩=some (.slice fa1 fl1 fc1)∧w'.cell? ⟨w.heap.size,1,none⟩=some (.slice (some ⟨g,0,none⟩) lms.length fc2)∧w'.cell? ⟨w.heap.size+1,0,none⟩=some (.slice (some ⟨tg,0,none⟩) T.length cap)∧w'.cell? ⟨w.heap.size+1,1,none⟩=some (.slice ya yn yc)∧w'.cell? ⟨wr.heap.size,0,none⟩=some (.int .i64 cl)∧w'.cell? ⟨wr.heap.size,1,none⟩=some (.int .i64 nm)∧w'.cell? ⟨wr.heap.size,2,none⟩=some (.slice pa pl pc)∧w'.cell? ⟨wr.heap.size,3,none⟩=some (.int .i64 r1)∧w'.cell? ⟨wr.heap.size,4,none⟩=some (.int .i64 r2)∧w'.cell? ⟨wr.heap.size,5,none⟩=some (.int .i64 lo)∧w'.cell? ⟨wr.heap.size,6,none⟩=some (.int .i64 st)∧w'.cell? ⟨wr.heap.size,7,none⟩=some (.slice ca cn cc)∧w'.cell? ⟨wr.heap.size,8,none⟩=some (.slice ha hl hc)∧w'.cell? ⟨wr.heap.size,9,none⟩=some (.slice ma ml mc))) (by kernel_rfl) ⟨f0,f1,t0,t1,m0,m1,m2,m3,m4,m5,m6,m7,m8,m9⟩ (fun hHeld=>?_)
     refine wpAnyH_take (i:=0) (oi:=⟨_,_,_,_,_,_⟩) (v:=.agg #[.slice (some ⟨tg,0,none⟩) T.length cap,.slice ya yn yc]) rfl (by kernel_rfl) (by kernel_rfl) (by kernel_rfl) (fun _ _ _ h=>h) (Or.inl ⟨by rfl,?_⟩) hHeld ?_
     ·intro w' hSw
      try dsimp only at hSw
      go_simp
     try simp only [Act.put,List.setIfInBounds_toArray,List.set_cons_zero,List.set_cons_succ]
     refine wpAnyH_take (i:=1) (oi:=⟨_,_,_,_,_,_⟩) (v:=.agg #[.int .i64 cl,.int .i64 nm,.slice pa pl pc,.int .i64 r1,.int .i64 r2,.int .i64 lo,.int .i64 st,.slice ca cn cc,.slice ha hl hc,.slice ma ml mc]) rfl (by kernel_rfl) (by kernel_rfl) (by kernel_rfl) (fun _ _ _ h=>h) (Or.inl ⟨by rfl,?_⟩) hHeld ?_
     ·intro w' hSw
      try dsimp only at hSw
      go_simp
     try simp only [Act.put,List.setIfInBounds_toArray,List.set_cons_zero,List.set_cons_succ]
     refine wpAnyH_ready (rs:=[2]) (by kernel_rfl) (by simp) ?_
     refine AllReadyH.cons (o:=⟨_,_,_,_,_,_⟩) rfl (fun K hK=>?_) AllReadyH.nil
     go_simp
     refine (unhide HHM _ hX1.drew).mono ?_
     rintro e w7 ⟨rfl,hb7⟩
     try dsimp only
     clear hHeld
     refine hK.out _ _ ⟨(hb7.cell lF).trans f0,(hb7.cell lF).trans f1,(hb7.cell lT).trans t0,(hb7.cell lT).trans t1,(hb7.cell lM).trans m0,(hb7.cell lM).trans m1,(hb7.cell lM).trans m2,(hb7.cell lM).trans m3,(hb7.cell lM).trans m4,(hb7.cell lM).trans m5,(hb7.cell lM).trans m6,(hb7.cell lM).trans m7,(hb7.cell lM).trans m8,(hb7.cell lM).trans m9⟩ (fun hHeld=>?_)
     clear hK K
     try simp only [Act.put,List.setIfInBounds_toArray,List.set_cons_zero,List.set_cons_succ]
     refine wpAnyH_take (i:=3) (oi:=⟨_,_,_,_,_,_⟩) (v:=.bool false) rfl (by kernel_rfl) (by kernel_rfl) (by kernel_rfl) (fun _ _ _ h=>h) (Or.inl ⟨by rfl,?_⟩) hHeld ?_
     ·intro w' hSw
      try dsimp only at hSw
      go_simp
     try simp only [Act.put,List.setIfInBounds_toArray,List.set_cons_zero,List.set_cons_succ]
     refine wpAnyH_take (i:=4) (oi:=⟨_,_,_,_,_,_⟩) (v:=.bool false) rfl (by kernel_rfl) (by kernel_rfl) (by kernel_rfl) (fun _ _ _ h=>h) (Or.inl ⟨by rfl,?_⟩) hHeld ?_
     ·intro w' hSw
      try dsimp only at hSw
      go_simp
     try simp only [Act.put,List.setIfInBounds_toArray,List.set_cons_zero,List.set_cons_succ]
     refine wpAnyH_take (i:=5) (oi:=⟨_,_,_,_,_,_⟩) (v:=.pointer (some ⟨w.heap.size,1,none⟩)) rfl (by kernel_rfl) (by kernel_rfl) (by kernel_rfl) (fun _ _ _ h=>h) (Or.inl ⟨by rfl,?_⟩) hHeld ?_
     ·intro w' hSw
      try dsimp only at hSw
      go_simp
     try simp only [Act.put,List.setIfInBounds_toArray,List.set_cons_zero,List.set_cons_succ]
     refine wpAnyH_take (i:=6) (oi:=⟨_,_,_,_,_,_⟩) (v:=.slice (some ⟨g,0,none⟩) lms.length fc2) rfl (by kernel_rfl) (by kernel_rfl) (by kernel_rfl) (fun _ _ _ h=>h) (Or.inl ⟨by rfl,?_⟩) hHeld ?_
     ·intro w' hSw
      try dsimp only at hSw
      go_simp
     try simp only [Act.put,List.setIfInBounds_toArray,List.set_cons_zero,List.set_cons_succ]
     refine wpAnyH_take (i:=7) (oi:=⟨_,_,_,_,_,_⟩) (v:=.int .i64 (k:Int)) rfl (by kernel_rfl) (by kernel_rfl) (by kernel_rfl) (fun _ _ _ h=>h) (Or.inl ⟨by rfl,?_⟩) hHeld ?_
     ·intro w' hSw
      try dsimp only at hSw
      go_simp
     try simp only [Act.put,List.setIfInBounds_toArray,List.set_cons_zero,List.set_cons_succ]
     refine wpAnyH_take (i:=8) (oi:=⟨_,_,_,_,_,_⟩) (v:=.slice (some ⟨g,0,none⟩) k fc2) rfl (by kernel_rfl) (by kernel_rfl) (by kernel_rfl) (fun _ _ _ h=>h) (Or.inl ⟨by rfl,?_⟩) hHeld ?_
     ·intro w' hSw
      try dsimp only at hSw
      go_simp
     try simp only [Act.put,List.setIfInBounds_toArray,List.set_cons_zero,List.set_cons_succ]
     refine wpAnyH_take (i:=9) (oi:=⟨_,_,_,_,_,_⟩) (v:=.agg #[.int .i64 cl,.int .i64 nm,.slice pa pl pc,.int .i64 r1,.int .i64 r2,.int .i64 lo,.int .i64 st,.slice ca cn cc,.slice ha hl hc,.slice ma ml mc]) rfl (by kernel_rfl) (by kernel_rfl) (by kernel_rfl) (fun _ _ _ h=>h) (Or.inl ⟨by rfl,?_⟩) hHeld ?_
     ·intro w' hSw
      try dsimp only at hSw
      go_simp
     try simp only [Act.put,List.setIfInBounds_toArray,List.set_cons_zero,List.set_cons_succ]
     refine wpAnyH_ready (rs:=[10]) (by kernel_rfl) (by simp) ?_
     refine AllReadyH.cons (o:=⟨_,_,_,_,_,_⟩) rfl (fun K hK=>?_) AllReadyH.nil
     go_simp
     refine (unhide HTW _ (hX1.drew.trans (hb7.mono (Nat.le_of_lt lM)))).mono ?_
     rintro e w8 ⟨rfl,hb8⟩
     try dsimp only
     clear hHeld
     refine hK.out _ _ ⟨(hb8.cell (Nat.lt_of_lt_of_le lF hb7.size)).trans ((hb7.cell lF).trans f0),(hb8.cell (Nat.lt_of_lt_of_le lF hb7.size)).trans ((hb7.cell lF).trans f1),(hb8.cell (Nat.lt_of_lt_of_le lT hb7.size)).trans ((hb7.cell lT).trans t0),(hb8.cell (Nat.lt_of_lt_of_le lT hb7.size)).trans ((hb7.cell lT).trans t1),(hb8.cell (Nat.lt_of_lt_of_le lM hb7.size)).trans ((hb7.cell lM).trans m0),(hb8.cell (Nat.lt_of_lt_of_le lM hb7.size)).trans ((hb7.cell lM).trans m1),(hb8.cell (Nat.lt_of_lt_of_le lM hb7.size)).trans ((hb7.cell lM).trans m2),(hb8.cell (Nat.lt_of_lt_of_le lM hb7.size)).trans ((hb7.cell lM).trans m3),(hb8.cell (Nat.lt_of_lt_of_le lM hb7.size)).trans ((hb7.cell lM).trans m4),(hb8.cell (Nat.lt_of_lt_of_le lM hb7.size)).trans ((hb7.cell lM).trans m5),(hb8.cell (Nat.lt_of_lt_of_le lM hb7.size)).trans ((hb7.cell lM).trans m6),(hb8.cell (Nat.lt_of_lt_of_le lM hb7.size)).trans ((hb7.cell lM).trans m7),(hb8.cell (Nat.lt_of_lt_of_le lM hb7.size)).trans ((hb7.cell lM).trans m8),(hb8.cell (Nat.lt_of_lt_of_le lM hb7.size)).trans ((hb7.cell lM).trans m9)⟩ (fun hHeld=>?_)
     clear hK K
     try simp only [Act.put,List.setIfInBounds_toArray,List.set_cons_zero,List.set_cons_succ]
     refine wpAnyH_take (i:=11) (oi:=⟨_,_,_,_,_,_⟩) (v:=.bool true) rfl (by kernel_rfl) (by kernel_rfl) (by kernel_rfl) (fun _ _ _ h=>h) (Or.inl ⟨by rfl,?_⟩) hHeld ?_
     ·intro w' hSw
      try dsimp only at hSw
      go_simp
     try simp only [Act.put,List.setIfInBounds_toArray,List.set_cons_zero,List.set_cons_succ]
     refine wpAnyH_take (i:=12) (oi:=⟨_,_,_,_,_,_⟩) (v:=.bool true) rfl (by kernel_rfl) (by kernel_rfl) (by kernel_rfl) (fun _ _ _ h=>h) (Or.inl ⟨by rfl,?_⟩) hHeld ?_
     ·intro w' hSw
      try dsimp only at hSw
      go_simp
     try simp only [Act.put,List.setIfInBounds_toArray,List.set_cons_zero,List.set_cons_succ]
     refine wpAnyH_take (i:=13) (oi:=⟨_,_,_,_,_,_⟩) (v:=undef) rfl (by kernel_rfl) (by kernel_rfl) (by kernel_rfl) (fun _ _ _ h=>h) (Or.inr ⟨by rfl,rfl⟩) hHeld ?_
     try simp only [Act.put,List.setIfInBounds_toArray,List.set_cons_zero,List.set_cons_succ]
     refine wpAnyH_take (i:=14) (oi:=⟨_,_,_,_,_,_⟩) (v:=undef) rfl (by kernel_rfl) (by kernel_rfl) (by kernel_rfl) (fun _ _ _ h=>h) (Or.inr ⟨by rfl,rfl⟩) hHeld ?_
     try simp only [Act.put,List.setIfInBounds_toArray,List.set_cons_zero,List.set_cons_succ]
     refine wpAnyH_take (i:=15) (oi:=⟨_,_,_,_,_,_⟩) (v:=undef) rfl (by kernel_rfl) (by kernel_rfl) (by kernel_rfl) (fun _ _ _ h=>h) (Or.inr ⟨by rfl,rfl⟩) hHeld ?_
     try simp only [Act.put,List.setIfInBounds_toArray,List.set_cons_zero,List.set_cons_succ]
     refine wpAnyH_take (i:=16) (oi:=⟨_,_,_,_,_,_⟩) (v:=undef) rfl (by kernel_rfl) (by kernel_rfl) (by kernel_rfl) (fun _ _ _ h=>h) (Or.inr ⟨by rfl,rfl⟩) hHeld ?_
     try simp only [Act.put,List.setIfInBounds_toArray,List.set_cons_zero,List.set_cons_succ]
     refine wpAnyH_take (i:=17) (oi:=⟨_,_,_,_,_,_⟩) (v:=.bool true) rfl (by kernel_rfl) (by kernel_rfl) (by kernel_rfl) (fun _ _ _ h=>h) (Or.inl ⟨by rfl,?_⟩) hHeld ?_
     ·intro w' hSw
      try dsimp only at hSw
      go_simp
     try simp only [Act.put,List.setIfInBounds_toArray,List.set_cons_zero,List.set_cons_succ]
     refine wpAnyH_done (by kernel_rfl) ?_ _
     have hX:=((hX1.drew).trans (hb7.mono (Nat.le_of_lt lM))).trans (hb8.mono (Nat.le_trans (Nat.le_of_lt lM) hb7.size))
     have hBn:=hB.trans (hX.mono hBs)
     have CFn:=stay hX CF
     have CTn:=stay hX CT
     have CRn:=stay hX CR
     clear hHeld f0 f1 t0 t1 m0 m1 m2 m3 m4 m5 m6 m7 m8 m9
     have z0:=blk_cell CRn 0
     have z1:=blk_cell CRn 1
     have z2:=blk_cell CRn 2
     have q0:=blk_free CRn 0
     have q1:=blk_free CRn 1
     have q2:=blk_free CRn 2
     have lR:=lt_of_block CRn
     simp at z0 z1 z2
     go_wp2_with fail
     refine bodyPost_ret (v:=.agg #[.int .i64 4,.int .i64 (k:Int),.int .i64 0]) (by simp [results,Tryz.results70,go_sem,z0,z1,z2]) rfl ?_
     rw [unhide HE,Pf.hres_ok (by omega)]
     exact ⟨rfl,((hBn.setCell (by simp; omega) _).setCell (by simp; omega) _).setCell (by simp; omega) _⟩
    | false =>
     cases C with
     | true =>
      have HE:Hid (q=(k:Int)):=by unfold Hid; rw [← hr]; simp
      clear hr
      go_wp2
      refine wp_region_held_drew (S:=(fun w'=>w'.cell? ⟨w.heap.size,0,none⟩=some (.slice fa1 fl1 fc1)∧w'.cell? ⟨w.heap.size,1,none⟩=some (.slice (some ⟨g,0,none⟩) lms.length fc2)∧w'.cell? ⟨w.heap.size+1,0,none⟩=some (.slice (some ⟨tg,0,none⟩) T.length cap)∧w'.cell? ⟨w.heap.size+1,1,none⟩=some (.slice ya yn yc)∧w'.cell? ⟨wr.heap.size,0,none⟩=some (.int .i64 cl)∧w'.cell? ⟨wr.heap.size,1,none⟩=some (.int .i64 nm)∧w'.cell? ⟨wr.heap.size,2,none⟩=some (.slice pa pl pc)∧w'.cell? ⟨wr.heap.size,3,none⟩=some (.int .i64 r1)∧w'.cell? ⟨wr.heap.size,4,none⟩=some (.int .i64 r2)∧w'.cell? ⟨wr.heap.size,5,none⟩=some (.int .i64 lo)∧w'.cell? ⟨wr.heap.size,6,none⟩=some (.int .i64 st)∧w'.cell? ⟨wr.heap.size,7,none⟩=some (.slice ca cn cc)∧w'.cell? ⟨wr.heap.size,8,none⟩=some (.slice ha hl hc)∧w'.cell? ⟨wr.heap.size,9,none⟩=some (.slice ma ml mc))) (by kernel_rfl) ⟨f0,f1,t0,t1,m0,m1,m2,m3,m4,m5,m6,m7,m8,m9⟩ (fun hHeld=>?_)
      refine wpAnyH_take (i:=0) (oi:=⟨_,_,_,_,_,_⟩) (v:=.agg #[.slice (some ⟨tg,0,none⟩) T.length cap,.slice ya yn yc]) rfl (by kernel_rfl) (by kernel_rfl) (by kernel_rfl) (fun _ _ _ h=>h) (Or.inl ⟨by rfl,?_⟩) hHeld ?_
      ·intro w' hSw
       try dsimp only at hSw
       go_simp
      try simp only [Act.put,List.setIfInBounds_toArray,List.set_cons_zero,List.set_cons_succ]
      refine wpAnyH_take (i:=1) (oi:=⟨_,_,_,_,_,_⟩) (v:=.agg #[.int .i64 cl,.int .i64 nm,.slice pa pl pc,.int .i64 r1,.int .i64 r2,.int .i64 lo,.int .i64 st,.slice ca cn cc,.slice ha hl hc,.slice ma ml mc]) rfl (by kernel_rfl) (by kernel_rfl) (by kernel_rfl) (fun _ _ _ h=>h) (Or.inl ⟨by rfl,?_⟩) hHeld ?_
      ·intro w' hSw
       try dsimp only at hSw
       go_simp
      try simp only [Act.put,List.setIfInBounds_toArray,List.set_cons_zero,List.set_cons_succ]
      refine wpAnyH_ready (rs:=[2]) (by kernel_rfl) (by simp) ?_
      refine AllReadyH.cons (o:=⟨_,_,_,_,_,_⟩) rfl (fun K hK=>?_) AllReadyH.nil
      go_simp
      refine (unhide HHM _ hX1.drew).mono ?_
      rintro e w7 ⟨rfl,hb7⟩
      try dsimp only
      clear hHeld
      refine hK.out _ _ ⟨(hb7.cell lF).trans f0,(hb7.cell lF).trans f1,(hb7.cell lT).trans t0,(hb7.cell lT).trans t1,(hb7.cell lM).trans m0,(hb7.cell lM).trans m1,(hb7.cell lM).trans m2,(hb7.cell lM).trans m3,(hb7.cell lM).trans m4,(hb7.cell lM).trans m5,(hb7.cell lM).trans m6,(hb7.cell lM).trans m7,(hb7.cell lM).trans m8,(hb7.cell lM).trans m9⟩ (fun hHeld=>?_)
      clear hK K
      try simp only [Act.put,List.setIfInBounds_toArray,List.set_cons_zero,List.set_cons_succ]
      refine wpAnyH_take (i:=3) (oi:=⟨_,_,_,_,_,_⟩) (v:=.bool false) rfl (by kernel_rfl) (by kernel_rfl) (by kernel_rfl) (fun _ _ _ h=>h) (Or.inl ⟨by rfl,?_⟩) hHeld ?_
      ·intro w' hSw
       try dsimp only at hSw
       go_simp
      try simp only [Act.put,List.setIfInBounds_toArray,List.set_cons_zero,List.set_cons_succ]
      refine wpAnyH_take (i:=4) (oi:=⟨_,_,_,_,_,_⟩) (v:=.bool false) rfl (by kernel_rfl) (by kernel_rfl) (by kernel_rfl) (fun _ _ _ h=>h) (Or.inl ⟨by rfl,?_⟩) hHeld ?_
      ·intro w' hSw
       try dsimp only at hSw
       go_simp
      try simp only [Act.put,List.setIfInBounds_toArray,List.set_cons_zero,List.set_cons_succ]
      refine wpAnyH_take (i:=5) (oi:=⟨_,_,_,_,_,_⟩) (v:=.pointer (some ⟨w.heap.size,1,none⟩)) rfl (by kernel_rfl) (by kernel_rfl) (by kernel_rfl) (fun _ _ _ h=>h) (Or.inl ⟨by rfl,?_⟩) hHeld ?_
      ·intro w' hSw
       try dsimp only at hSw
       go_simp
      try simp only [Act.put,List.setIfInBounds_toArray,List.set_cons_zero,List.set_cons_succ]
      refine wpAnyH_take (i:=6) (oi:=⟨_,_,_,_,_,_⟩) (v:=.slice (some ⟨g,0,none⟩) lms.length fc2) rfl (by kernel_rfl) (by kernel_rfl) (by kernel_rfl) (fun _ _ _ h=>h) (Or.inl ⟨by rfl,?_⟩) hHeld ?_
      ·intro w' hSw
       try dsimp only at hSw
       go_simp
      try simp only [Act.put,List.setIfInBounds_toArray,List.set_cons_zero,List.set_cons_succ]
      refine wpAnyH_take (i:=7) (oi:=⟨_,_,_,_,_,_⟩) (v:=.int .i64 (k:Int)) rfl (by kernel_rfl) (by kernel_rfl) (by kernel_rfl) (fun _ _ _ h=>h) (Or.inl ⟨by rfl,?_⟩) hHeld ?_
      ·intro w' hSw
       try dsimp only at hSw
       go_simp
      try simp only [Act.put,List.setIfInBounds_toArray,List.set_cons_zero,List.set_cons_succ]
      refine wpAnyH_take (i:=8) (oi:=⟨_,_,_,_,_,_⟩) (v:=.slice (some ⟨g,0,none⟩) k fc2) rfl (by kernel_rfl) (by kernel_rfl) (by kernel_rfl) (fun _ _ _ h=>h) (Or.inl ⟨by rfl,?_⟩) hHeld ?_
      ·intro w' hSw
       try dsimp only at hSw
       go_simp
      try simp only [Act.put,List.setIfInBounds_toArray,List.set_cons_zero,List.set_cons_succ]
      refine wpAnyH_take (i:=9) (oi:=⟨_,_,_,_,_,_⟩) (v:=.agg #[.int .i64 cl,.int .i64 nm,.slice pa pl pc,.int .i64 r1,.int .i64 r2,.int .i64 lo,.int .i64 st,.slice ca cn cc,.slice ha hl hc,.slice ma ml mc]) rfl (by kernel_rfl) (by kernel_rfl) (by kernel_rfl) (fun _ _ _ h=>h) (Or.inl ⟨by rfl,?_⟩) hHeld ?_
      ·intro w' hSw
       try dsimp only at hSw
       go_simp
      try simp only [Act.put,List.setIfInBounds_toArray,List.set_cons_zero,List.set_cons_succ]
      refine wpAnyH_ready (rs:=[10]) (by kernel_rfl) (by simp) ?_
      refine AllReadyH.cons (o:=⟨_,_,_,_,_,_⟩) rfl (fun K hK=>?_) AllReadyH.nil
      go_simp
      refine (unhide HTW _ (hX1.drew.trans (hb7.mono (Nat.le_of_lt lM)))).mono ?_
      rintro e w8 ⟨rfl,hb8⟩
      try dsimp only
      clear hHeld
      refine hK.out _ _ ⟨(hb8.cell (Nat.lt_of_lt_of_le lF hb7.size)).trans ((hb7.cell lF).trans f0),(hb8.cell (Nat.lt_of_lt_of_le lF hb7.size)).trans ((hb7.cell lF).trans f1),(hb8.cell (Nat.lt_of_lt_of_le lT hb7.size)).trans ((hb7.cell lT).trans t0),(hb8.cell (Nat.lt_of_lt_of_le lT hb7.size)).trans ((hb7.cell lT).trans t1),(hb8.cell (Nat.lt_of_lt_of_le lM hb7.size)).trans ((hb7.cell lM).trans m0),(hb8.cell (Nat.lt_of_lt_of_le lM hb7.size)).trans ((hb7.cell lM).trans m1),(hb8.cell (Nat.lt_of_lt_of_le lM hb7.size)).trans ((hb7.cell lM).trans m2),(hb8.cell (Nat.lt_of_lt_of_le lM hb7.size)).trans ((hb7.cell lM).trans m3),(hb8.cell (Nat.lt_of_lt_of_le lM hb7.size)).trans ((hb7.cell lM).trans m4),(hb8.cell (Nat.lt_of_lt_of_le lM hb7.size)).trans ((hb7.cell lM).trans m5),(hb8.cell (Nat.lt_of_lt_of_le lM hb7.size)).trans ((hb7.cell lM).trans m6),(hb8.cell (Nat.lt_of_lt_of_le lM hb7.size)).trans ((hb7.cell lM).trans m7),(hb8.cell (Nat.lt_of_lt_of_le lM hb7.size)).trans ((hb7.cell lM).trans m8),(hb8.cell (Nat.lt_of_lt_of_le lM hb7.size)).trans ((hb7.cell lM).trans m9)⟩ (fun hHeld=>?_)
      clear hK K
      try simp only [Act.put,List.setIfInBounds_toArray,List.set_cons_zero,List.set_cons_succ]
      refine wpAnyH_take (i:=11) (oi:=⟨_,_,_,_,_,_⟩) (v:=.bool false) rfl (by kernel_rfl) (by kernel_rfl) (by kernel_rfl) (fun _ _ _ h=>h) (Or.inl ⟨by rfl,?_⟩) hHeld ?_
      ·intro w' hSw
       try dsimp only at hSw
       go_simp
      try simp only [Act.put,List.setIfInBounds_toArray,List.set_cons_zero,List.set_cons_succ]
      refine wpAnyH_take (i:=12) (oi:=⟨_,_,_,_,_,_⟩) (v:=.bool false) rfl (by kernel_rfl) (by kernel_rfl) (by kernel_rfl) (fun _ _ _ h=>h) (Or.inl ⟨by rfl,?_⟩) hHeld ?_
      ·intro w' hSw
       try dsimp only at hSw
       go_simp
      try simp only [Act.put,List.setIfInBounds_toArray,List.set_cons_zero,List.set_cons_succ]
      refine wpAnyH_take (i:=13) (oi:=⟨_,_,_,_,_,_⟩) (v:=.agg #[.slice fa1 fl1 fc1,.slice (some ⟨g,0,none⟩) lms.length fc2]) rfl (by kernel_rfl) (by kernel_rfl) (by kernel_rfl) (fun _ _ _ h=>h) (Or.inl ⟨by rfl,?_⟩) hHeld ?_
      ·intro w' hSw
       try dsimp only at hSw
       go_simp
      try simp only [Act.put,List.setIfInBounds_toArray,List.set_cons_zero,List.set_cons_succ]
      refine wpAnyH_take (i:=14) (oi:=⟨_,_,_,_,_,_⟩) (v:=.agg #[.slice (some ⟨tg,0,none⟩) T.length cap,.slice ya yn yc]) rfl (by kernel_rfl) (by kernel_rfl) (by kernel_rfl) (fun _ _ _ h=>h) (Or.inl ⟨by rfl,?_⟩) hHeld ?_
      ·intro w' hSw
       try dsimp only at hSw
       go_simp
      try simp only [Act.put,List.setIfInBounds_toArray,List.set_cons_zero,List.set_cons_succ]
      refine wpAnyH_take (i:=15) (oi:=⟨_,_,_,_,_,_⟩) (v:=.agg #[.int .i64 cl,.int .i64 nm,.slice pa pl pc,.int .i64 r1,.int .i64 r2,.int .i64 lo,.int .i64 st,.slice ca cn cc,.slice ha hl hc,.slice ma ml mc]) rfl (by kernel_rfl) (by kernel_rfl) (by kernel_rfl) (fun _ _ _ h=>h) (Or.inl ⟨by rfl,?_⟩) hHeld ?_
      ·intro w' hSw
       try dsimp only at hSw
       go_simp
      try simp only [Act.put,List.setIfInBounds_toArray,List.set_cons_zero,List.set_cons_succ]
      refine wpAnyH_ready (rs:=[16]) (by kernel_rfl) (by simp) ?_
      refine AllReadyH.cons (o:=⟨_,_,_,_,_,_⟩) rfl (fun K hK=>?_) AllReadyH.nil
      go_simp
      refine (unhide HBR _ ((hX1.drew.trans (hb7.mono (Nat.le_of_lt lM))).trans (hb8.mono (Nat.le_trans (Nat.le_of_lt lM) hb7.size)))).mono ?_
      rintro e w9 ⟨rfl,hb9⟩
      try dsimp only
      clear hHeld
      refine hK.out _ _ ⟨(hb9.cell (Nat.lt_of_lt_of_le (Nat.lt_of_lt_of_le lF hb7.size) hb8.size)).trans ((hb8.cell (Nat.lt_of_lt_of_le lF hb7.size)).trans ((hb7.cell lF).trans f0)),(hb9.cell (Nat.lt_of_lt_of_le (Nat.lt_of_lt_of_le lF hb7.size) hb8.size)).trans ((hb8.cell (Nat.lt_of_lt_of_le lF hb7.size)).trans ((hb7.cell lF).trans f1)),(hb9.cell (Nat.lt_of_lt_of_le (Nat.lt_of_lt_of_le lT hb7.size) hb8.size)).trans ((hb8.cell (Nat.lt_of_lt_of_le lT hb7.size)).trans ((hb7.cell lT).trans t0)),(hb9.cell (Nat.lt_of_lt_of_le (Nat.lt_of_lt_of_le lT hb7.size) hb8.size)).trans ((hb8.cell (Nat.lt_of_lt_of_le lT hb7.size)).trans ((hb7.cell lT).trans t1)),(hb9.cell (Nat.lt_of_lt_of_le (Nat.lt_of_lt_of_le lM hb7.size) hb8.size)).trans ((hb8.cell (Nat.lt_of_lt_of_le lM hb7.size)).trans ((hb7.cell lM).trans m0)),(hb9.cell (Nat.lt_of_lt_of_le (Nat.lt_of_lt_of_le lM hb7.size) hb8.size)).trans ((hb8.cell (Nat.lt_of_lt_of_le lM hb7.size)).trans ((hb7.cell lM).trans m1)),(hb9.cell (Nat.lt_of_lt_of_le (Nat.lt_of_lt_of_le lM hb7.size) hb8.size)).trans ((hb8.cell (Nat.lt_of_lt_of_le lM hb7.size)).trans ((hb7.cell lM).trans m2)),(hb9.cell (Nat.lt_of_lt_of_le (Nat.lt_of_lt_of_le lM hb7.size) hb8.size)).trans ((hb8.cell (Nat.lt_of_lt_of_le lM hb7.size)).trans ((hb7.cell lM).trans m3)),(hb9.cell (Nat.lt_of_lt_of_le (Nat.lt_of_lt_of_le lM hb7.size) hb8.size)).trans ((hb8.cell (Nat.lt_of_lt_of_le lM hb7.size)).trans ((hb7.cell lM).trans m4)),(hb9.cell (Nat.lt_of_lt_of_le (Nat.lt_of_lt_of_le lM hb7.size) hb8.size)).trans ((hb8.cell (Nat.lt_of_lt_of_le lM hb7.size)).trans ((hb7.cell lM).trans m5)),(hb9.cell (Nat.lt_of_lt_of_le (Nat.lt_of_lt_of_le lM hb7.size) hb8.size)).trans ((hb8.cell (Nat.lt_of_lt_of_le lM hb7.size)).trans ((hb7.cell lM).trans m6)),(hb9.cell (Nat.lt_of_lt_of_le (Nat.lt_of_lt_of_le lM hb7.size) hb8.size)).trans ((hb8.cell (Nat.lt_of_lt_of_le lM hb7.size)).trans ((hb7.cell lM).trans m7)),(hb9.cell (Nat.lt_of_lt_of_le (Nat.lt_of_lt_of_le lM hb7.size) hb8.size)).trans ((hb8.cell (Nat.lt_of_lt_of_le lM hb7.size)).trans ((hb7.cell lM).trans m8)),(hb9.cell (Nat.lt_of_lt_of_le (Nat.lt_of_lt_of_le lM hb7.size) hb8.size)).trans ((hb8.cell (Nat.lt_of_lt_of_le lM hb7.size)).trans ((hb7.cell lM).trans m9))⟩ (fun hHeld=>?_)
      clear hK K
      try simp only [Act.put,List.setIfInBounds_toArray,List.set_cons_zero,List.set_cons_succ]
      refine wpAnyH_take (i:=17) (oi:=⟨_,_,_,_,_,_⟩) (v:=.bool true) rfl (by kernel_rfl) (by kernel_rfl) (by kernel_rfl) (fun _ _ _ h=>h) (Or.inl ⟨by rfl,?_⟩) hHeld ?_
      ·intro w' hSw
       try dsimp only at hSw
       go_simp
      try simp only [Act.put,List.setIfInBounds_toArray,List.set_cons_zero,List.set_cons_succ]
      refine wpAnyH_done (by kernel_rfl) ?_ _
      have hX:=(((hX1.drew).trans (hb7.mono (Nat.le_of_lt lM))).trans (hb8.mono (Nat.le_trans (Nat.le_of_lt lM) hb7.size))).trans (hb9.mono (Nat.le_trans (Nat.le_trans (Nat.le_of_lt lM) hb7.size) hb8.size))
      have hBn:=hB.trans (hX.mono hBs)
      have CFn:=stay hX CF
      have CTn:=stay hX CT
      have CRn:=stay hX CR
      clear hHeld f0 f1 t0 t1 m0 m1 m2 m3 m4 m5 m6 m7 m8 m9
      have z0:=blk_cell CRn 0
      have z1:=blk_cell CRn 1
      have z2:=blk_cell CRn 2
      have q0:=blk_free CRn 0
      have q1:=blk_free CRn 1
      have q2:=blk_free CRn 2
      have lR:=lt_of_block CRn
      simp at z0 z1 z2
      go_wp2_with fail
      refine bodyPost_ret (v:=.agg #[.int .i64 4,.int .i64 (k:Int),.int .i64 0]) (by simp [results,Tryz.results70,go_sem,z0,z1,z2]) rfl ?_
      rw [unhide HE,Pf.hres_ok (by omega)]
      exact ⟨rfl,((hBn.setCell (by simp; omega) _).setCell (by simp; omega) _).setCell (by simp; omega) _⟩
     | false =>
      have HG:Hid (Pf.heads T (lms.map Prod.fst) (k+1) ((lms.map Prod.fst).drop (k+1))=q):=by unfold Hid; rw [← hr]; simp
      clear hr
      go_wp2
      refine wp_region_held_drew (S:=(fun w'=>w'.cell? ⟨w.heap.size,0,none⟩=some (.slice fa1 fl1 fc1)∧w'.cell? ⟨w.heap.size,1,none⟩=some (.slice (some ⟨g,0,none⟩) lms.length fc2)∧w'.cell? ⟨w.heap.size+1,0,none⟩=some (.slice (some ⟨tg,0,none⟩) T.length cap)∧w'.cell? ⟨w.heap.size+1,1,none⟩=some (.slice ya yn yc)∧w'.cell? ⟨wr.heap.size,0,none⟩=some (.int .i64 cl)∧w'.cell? ⟨wr.heap.size,1,none⟩=some (.int .i64 nm)∧w'.cell? ⟨wr.heap.size,2,none⟩=some (.slice pa pl pc)∧w'.cell? ⟨wr.heap.size,3,none⟩=some (.int .i64 r1)∧w'.cell? ⟨wr.heap.size,4,none⟩=some (.int .i64 r2)∧w'.cell? ⟨wr.heap.size,5,none⟩=some (.int .i64 lo)∧w'.cell? ⟨wr.heap.size,6,none⟩=some (.int .i64 st)∧w'.cell? ⟨wr.heap.size,7,none⟩=some (.slice ca cn cc)∧w'.cell? ⟨wr.heap.size,8,none⟩=some (.slice ha hl hc)∧w'.cell? ⟨wr.heap.size,9,none⟩=some (.slice ma ml mc))) (by kernel_rfl) ⟨f0,f1,t0,t1,m0,m1,m2,m3,m4,m5,m6,m7,m8,m9⟩ (fun hHeld=>?_)
      refine wpAnyH_take (i:=0) (oi:=⟨_,_,_,_,_,_⟩) (v:=.agg #[.slice (some ⟨tg,0,none⟩) T.length cap,.slice ya yn yc]) rfl (by kernel_rfl) (by kernel_rfl) (by kernel_rfl) (fun _ _ _ h=>h) (Or.inl ⟨by rfl,?_⟩) hHeld ?_
      ·intro w' hSw
       try dsimp only at hSw
       go_simp
      try simp only [Act.put,List.setIfInBounds_toArray,List.set_cons_zero,List.set_cons_succ]
      refine wpAnyH_take (i:=1) (oi:=⟨_,_,_,_,_,_⟩) (v:=.agg #[.int .i64 cl,.int .i64 nm,.slice pa pl pc,.int .i64 r1,.int .i64 r2,.int .i64 lo,.int .i64 st,.slice ca cn cc,.slice ha hl hc,.slice ma ml mc]) rfl (by kernel_rfl) (by kernel_rfl) (by kernel_rfl) (fun _ _ _ h=>h) (Or.inl ⟨by rfl,?_⟩) hHeld ?_
      ·intro w' hSw
       try dsimp only at hSw
       go_simp
      try simp only [Act.put,List.setIfInBounds_toArray,List.set_cons_zero,List.set_cons_succ]
      refine wpAnyH_ready (rs:=[2]) (by kernel_rfl) (by simp) ?_
      refine AllReadyH.cons (o:=⟨_,_,_,_,_,_⟩) rfl (fun K hK=>?_) AllReadyH.nil
      go_simp
      refine (unhide HHM _ hX1.drew).mono ?_
      rintro e w7 ⟨rfl,hb7⟩
      try dsimp only
      clear hHeld
      refine hK.out _ _ ⟨(hb7.cell lF).trans f0,(hb7.cell lF).trans f1,(hb7.cell lT).trans t0,(hb7.cell lT).trans t1,(hb7.cell lM).trans m0,(hb7.cell lM).trans m1,(hb7.cell lM).trans m2,(hb7.cell lM).trans m3,(hb7.cell lM).trans m4,(hb7.cell lM).trans m5,(hb7.cell lM).trans m6,(hb7.cell lM).trans m7,(hb7.cell lM).trans m8,(hb7.cell lM).trans m9⟩ (fun hHeld=>?_)
      clear hK K
      try simp only [Act.put,List.setIfInBounds_toArray,List.set_cons_zero,List.set_cons_succ]
      refine wpAnyH_take (i:=3) (oi:=⟨_,_,_,_,_,_⟩) (v:=.bool false) rfl (by kernel_rfl) (by kernel_rfl) (by kernel_rfl) (fun _ _ _ h=>h) (Or.inl ⟨by rfl,?_⟩) hHeld ?_
      ·intro w' hSw
       try dsimp only at hSw
       go_simp
      try simp only [Act.put,List.setIfInBounds_toArray,List.set_cons_zero,List.set_cons_succ]
      refine wpAnyH_take (i:=4) (oi:=⟨_,_,_,_,_,_⟩) (v:=.bool false) rfl (by kernel_rfl) (by kernel_rfl) (by kernel_rfl) (fun _ _ _ h=>h) (Or.inl ⟨by rfl,?_⟩) hHeld ?_
      ·intro w' hSw
       try dsimp only at hSw
       go_simp
      try simp only [Act.put,List.setIfInBounds_toArray,List.set_cons_zero,List.set_cons_succ]
      refine wpAnyH_take (i:=5) (oi:=⟨_,_,_,_,_,_⟩) (v:=.pointer (some ⟨w.heap.size,1,none⟩)) rfl (by kernel_rfl) (by kernel_rfl) (by kernel_rfl) (fun _ _ _ h=>h) (Or.inl ⟨by rfl,?_⟩) hHeld ?_
      ·intro w' hSw
       try dsimp only at hSw
       go_simp
      try simp only [Act.put,List.setIfInBounds_toArray,List.set_cons_zero,List.set_cons_succ]
      refine wpAnyH_take (i:=6) (oi:=⟨_,_,_,_,_,_⟩) (v:=.slice (some ⟨g,0,none⟩) lms.length fc2) rfl (by kernel_rfl) (by kernel_rfl) (by kernel_rfl) (fun _ _ _ h=>h) (Or.inl ⟨by rfl,?_⟩) hHeld ?_
      ·intro w' hSw
       try dsimp only at hSw
       go_simp
      try simp only [Act.put,List.setIfInBounds_toArray,List.set_cons_zero,List.set_cons_succ]
      refine wpAnyH_take (i:=7) (oi:=⟨_,_,_,_,_,_⟩) (v:=.int .i64 (k:Int)) rfl (by kernel_rfl) (by kernel_rfl) (by kernel_rfl) (fun _ _ _ h=>h) (Or.inl ⟨by rfl,?_⟩) hHeld ?_
      ·intro w' hSw
       try dsimp only at hSw
       go_simp
      try simp only [Act.put,List.setIfInBounds_toArray,List.set_cons_zero,List.set_cons_succ]
      refine wpAnyH_take (i:=8) (oi:=⟨_,_,_,_,_,_⟩) (v:=.slice (some ⟨g,0,none⟩) k fc2) rfl (by kernel_rfl) (by kernel_rfl) (by kernel_rfl) (fun _ _ _ h=>h) (Or.inl ⟨by rfl,?_⟩) hHeld ?_
      ·intro w' hSw
       try dsimp only at hSw
       go_simp
      try simp only [Act.put,List.setIfInBounds_toArray,List.set_cons_zero,List.set_cons_succ]
      refine wpAnyH_take (i:=9) (oi:=⟨_,_,_,_,_,_⟩) (v:=.agg #[.int .i64 cl,.int .i64 nm,.slice pa pl pc,.int .i64 r1,.int .i64 r2,.int .i64 lo,.int .i64 st,.slice ca cn cc,.slice ha hl hc,.slice ma ml mc]) rfl (by kernel_rfl) (by kernel_rfl) (by kernel_rfl) (fun _ _ _ h=>h) (Or.inl ⟨by rfl,?_⟩) hHeld ?_
      ·intro w' hSw
       try dsimp only at hSw
       go_simp
      try simp only [Act.put,List.setIfInBounds_toArray,List.set_cons_zero,List.set_cons_succ]
      refine wpAnyH_ready (rs:=[10]) (by kernel_rfl) (by simp) ?_
      refine AllReadyH.cons (o:=⟨_,_,_,_,_,_⟩) rfl (fun K hK=>?_) AllReadyH.nil
      go_simp
      refine (unhide HTW _ (hX1.drew.trans (hb7.mono (Nat.le_of_lt lM)))).mono ?_
      rintro e w8 ⟨rfl,hb8⟩
      try dsimp only
      clear hHeld
      refine hK.out _ _ ⟨(hb8.cell (Nat.lt_of_lt_of_le lF hb7.size)).trans ((hb7.cell lF).trans f0),(hb8.cell (Nat.lt_of_lt_of_le lF hb7.size)).trans ((hb7.cell lF).trans f1),(hb8.cell (Nat.lt_of_lt_of_le lT hb7.size)).trans ((hb7.cell lT).trans t0),(hb8.cell (Nat.lt_of_lt_of_le lT hb7.size)).trans ((hb7.cell lT).trans t1),(hb8.cell (Nat.lt_of_lt_of_le lM hb7.size)).trans ((hb7.cell lM).trans m0),(hb8.cell (Nat.lt_of_lt_of_le lM hb7.size)).trans ((hb7.cell lM).trans m1),(hb8.cell (Nat.lt_of_lt_of_le lM hb7.size)).trans ((hb7.cell lM).trans m2),(hb8.cell (Nat.lt_of_lt_of_le lM hb7.size)).trans ((hb7.cell lM).trans m3),(hb8.cell (Nat.lt_of_lt_of_le lM hb7.size)).trans ((hb7.cell lM).trans m4),(hb8.cell (Nat.lt_of_lt_of_le lM hb7.size)).trans ((hb7.cell lM).trans m5),(hb8.cell (Nat.lt_of_lt_of_le lM hb7.size)).trans ((hb7.cell lM).trans m6),(hb8.cell (Nat.lt_of_lt_of_le lM hb7.size)).trans ((hb7.cell lM).trans m7),(hb8.cell (Nat.lt_of_lt_of_le lM hb7.size)).trans ((hb7.cell lM).trans m8),(hb8.cell (Nat.lt_of_lt_of_le lM hb7.size)).trans ((hb7.cell lM).trans m9)⟩ (fun hHeld=>?_)
      clear hK K
      try simp only [Act.put,List.setIfInBounds_toArray,List.set_cons_zero,List.set_cons_succ]
      refine wpAnyH_take (i:=11) (oi:=⟨_,_,_,_,_,_⟩) (v:=.bool false) rfl (by kernel_rfl) (by kernel_rfl) (by kernel_rfl) (fun _ _ _ h=>h) (Or.inl ⟨by rfl,?_⟩) hHeld ?_
      ·intro w' hSw
       try dsimp only at hSw
       go_simp
      try simp only [Act.put,List.setIfInBounds_toArray,List.set_cons_zero,List.set_cons_succ]
      refine wpAnyH_take (i:=12) (oi:=⟨_,_,_,_,_,_⟩) (v:=.bool false) rfl (by kernel_rfl) (by kernel_rfl) (by kernel_rfl) (fun _ _ _ h=>h) (Or.inl ⟨by rfl,?_⟩) hHeld ?_
      ·intro w' hSw
       try dsimp only at hSw
       go_simp
      try simp only [Act.put,List.setIfInBounds_toArray,List.set_cons_zero,List.set_cons_succ]
      refine wpAnyH_take (i:=13) (oi:=⟨_,_,_,_,_,_⟩) (v:=.agg #[.slice fa1 fl1 fc1,.slice (some ⟨g,0,none⟩) lms.length fc2]) rfl (by kernel_rfl) (by kernel_rfl) (by kernel_rfl) (fun _ _ _ h=>h) (Or.inl ⟨by rfl,?_⟩) hHeld ?_
      ·intro w' hSw
       try dsimp only at hSw
       go_simp
      try simp only [Act.put,List.setIfInBounds_toArray,List.set_cons_zero,List.set_cons_succ]
      refine wpAnyH_take (i:=14) (oi:=⟨_,_,_,_,_,_⟩) (v:=.agg #[.slice (some ⟨tg,0,none⟩) T.length cap,.slice ya yn yc]) rfl (by kernel_rfl) (by kernel_rfl) (by kernel_rfl) (fun _ _ _ h=>h) (Or.inl ⟨by rfl,?_⟩) hHeld ?_
      ·intro w' hSw
       try dsimp only at hSw
       go_simp
      try simp only [Act.put,List.setIfInBounds_toArray,List.set_cons_zero,List.set_cons_succ]
      refine wpAnyH_take (i:=15) (oi:=⟨_,_,_,_,_,_⟩) (v:=.agg #[.int .i64 cl,.int .i64 nm,.slice pa pl pc,.int .i64 r1,.int .i64 r2,.int .i64 lo,.int .i64 st,.slice ca cn cc,.slice ha hl hc,.slice ma ml mc]) rfl (by kernel_rfl) (by kernel_rfl) (by kernel_rfl) (fun _ _ _ h=>h) (Or.inl ⟨by rfl,?_⟩) hHeld ?_
      ·intro w' hSw
       try dsimp only at hSw
       go_simp
      try simp only [Act.put,List.setIfInBounds_toArray,List.set_cons_zero,List.set_cons_succ]
      refine wpAnyH_ready (rs:=[16]) (by kernel_rfl) (by simp) ?_
      refine AllReadyH.cons (o:=⟨_,_,_,_,_,_⟩) rfl (fun K hK=>?_) AllReadyH.nil
      go_simp
      refine (unhide HBR _ ((hX1.drew.trans (hb7.mono (Nat.le_of_lt lM))).trans (hb8.mono (Nat.le_trans (Nat.le_of_lt lM) hb7.size)))).mono ?_
      rintro e w9 ⟨rfl,hb9⟩
      try dsimp only
      clear hHeld
      refine hK.out _ _ ⟨(hb9.cell (Nat.lt_of_lt_of_le (Nat.lt_of_lt_of_le lF hb7.size) hb8.size)).trans ((hb8.cell (Nat.lt_of_lt_of_le lF hb7.size)).trans ((hb7.cell lF).trans f0)),(hb9.cell (Nat.lt_of_lt_of_le (Nat.lt_of_lt_of_le lF hb7.size) hb8.size)).trans ((hb8.cell (Nat.lt_of_lt_of_le lF hb7.size)).trans ((hb7.cell lF).trans f1)),(hb9.cell (Nat.lt_of_lt_of_le (Nat.lt_of_lt_of_le lT hb7.size) hb8.size)).trans ((hb8.cell (Nat.lt_of_lt_of_le lT hb7.size)).trans ((hb7.cell lT).trans t0)),(hb9.cell (Nat.lt_of_lt_of_le (Nat.lt_of_lt_of_le lT hb7.size) hb8.size)).trans ((hb8.cell (Nat.lt_of_lt_of_le lT hb7.size)).trans ((hb7.cell lT).trans t1)),(hb9.cell (Nat.lt_of_lt_of_le (Nat.lt_of_lt_of_le lM hb7.size) hb8.size)).trans ((hb8.cell (Nat.lt_of_lt_of_le lM hb7.size)).trans ((hb7.cell lM).trans m0)),(hb9.cell (Nat.lt_of_lt_of_le (Nat.lt_of_lt_of_le lM hb7.size) hb8.size)).trans ((hb8.cell (Nat.lt_of_lt_of_le lM hb7.size)).trans ((hb7.cell lM).trans m1)),(hb9.cell (Nat.lt_of_lt_of_le (Nat.lt_of_lt_of_le lM hb7.size) hb8.size)).trans ((hb8.cell (Nat.lt_of_lt_of_le lM hb7.size)).trans ((hb7.cell lM).trans m2)),(hb9.cell (Nat.lt_of_lt_of_le (Nat.lt_of_lt_of_le lM hb7.size) hb8.size)).trans ((hb8.cell (Nat.lt_of_lt_of_le lM hb7.size)).trans ((hb7.cell lM).trans m3)),(hb9.cell (Nat.lt_of_lt_of_le (Nat.lt_of_lt_of_le lM hb7.size) hb8.size)).trans ((hb8.cell (Nat.lt_of_lt_of_le lM hb7.size)).trans ((hb7.cell lM).trans m4)),(hb9.cell (Nat.lt_of_lt_of_le (Nat.lt_of_lt_of_le lM hb7.size) hb8.size)).trans ((hb8.cell (Nat.lt_of_lt_of_le lM hb7.size)).trans ((hb7.cell lM).trans m5)),(hb9.cell (Nat.lt_of_lt_of_le (Nat.lt_of_lt_of_le lM hb7.size) hb8.size)).trans ((hb8.cell (Nat.lt_of_lt_of_le lM hb7.size)).trans ((hb7.cell lM).trans m6)),(hb9.cell (Nat.lt_of_lt_of_le (Nat.lt_of_lt_of_le lM hb7.size) hb8.size)).trans ((hb8.cell (Nat.lt_of_lt_of_le lM hb7.size)).trans ((hb7.cell lM).trans m7)),(hb9.cell (Nat.lt_of_lt_of_le (Nat.lt_of_lt_of_le lM hb7.size) hb8.size)).trans ((hb8.cell (Nat.lt_of_lt_of_le lM hb7.size)).trans ((hb7.cell lM).trans m8)),(hb9.cell (Nat.lt_of_lt_of_le (Nat.lt_of_lt_of_le lM hb7.size) hb8.size)).trans ((hb8.cell (Nat.lt_of_lt_of_le lM hb7.size)).trans ((hb7.cell lM).trans m9))⟩ (fun hHeld=>?_)
      clear hK K
      try simp only [Act.put,List.setIfInBounds_toArray,List.set_cons_zero,List.set_cons_succ]
      refine wpAnyH_take (i:=17) (oi:=⟨_,_,_,_,_,_⟩) (v:=.bool false) rfl (by kernel_rfl) (by kernel_rfl) (by kernel_rfl) (fun _ _ _ h=>h) (Or.inl ⟨by rfl,?_⟩) hHeld ?_
      ·intro w' hSw
       try dsimp only at hSw
       go_simp
      try simp only [Act.put,List.setIfInBounds_toArray,List.set_cons_zero,List.set_cons_succ]
      refine wpAnyH_done (by kernel_rfl) ?_ _
      have hX:=(((hX1.drew).trans (hb7.mono (Nat.le_of_lt lM))).trans (hb8.mono (Nat.le_trans (Nat.le_of_lt lM) hb7.size))).trans (hb9.mono (Nat.le_trans (Nat.le_trans (Nat.le_of_lt lM) hb7.size) hb8.size))
      have hBn:=hB.trans (hX.mono hBs)
      have CFn:=stay hX CF
      have CTn:=stay hX CT
      have CRn:=stay hX CR
      clear hHeld f0 f1 t0 t1 m0 m1 m2 m3 m4 m5 m6 m7 m8 m9
      go_wp2
      go_roundw
      case rel=>exact ⟨k+1,by omega,by go_num,HG,hBn,CFn,CTn,CRn⟩
      case measure=>simp [intOf]; omega
  ·have HE:Hid (q = -1):=by unfold Hid; rw [← unhide HQ,List.drop_eq_nil_of_le (by simp; omega)]; rfl
   have kb:¬ (k:Int) < (lms.length:Int):=by omega
   clear HQ
   have z0:=blk_cell CR 0
   have z1:=blk_cell CR 1
   have z2:=blk_cell CR 2
   have q0:=blk_free CR 0
   have q1:=blk_free CR 1
   have q2:=blk_free CR 2
   simp at z0 z1 z2
   go_wp2_with fail
   refine bodyPost_ret (v:=.agg #[.int .i64 0,.int .i64 0,.int .i64 0]) (by simp [results,Tryz.results70,go_sem,z0,z1,z2]) rfl ?_
   rw [unhide HE]
   exact ⟨rfl,((hB.setCell (by simp; omega) _).setCell (by simp; omega) _).setCell (by simp; omega) _⟩
end Go.Proofs.YteffpdofcgbokaaGreat

/-
  The walks over faults.inBodies and faults.Find.
-/
namespace Go.Proofs.YteffpdofcgbokaaGreat
open Go.RowKit
variable {ya:Option Addr}{yn yc:Nat}

set_option maxRecDepth 100000 in
set_option maxHeartbeats 40000000 in
theorem inBodies_any (fa1 fa2:Option Addr) (fc1 fc2:Nat) (lcs:List (Rd.Cls × Value)) (lms:List (Rd.Mth × MthV)) (T:List Int) (tg cap bm:Nat) (w:World) (hT:T.length≤1000) (hTr:TreeIn w tg T)
  (hm6:lms.length≤6) (hc6:lcs.length≤6) (hcf:∀ p∈lcs,p.1.fields.length≤1000) (hcs:ClssIn w bm (.slice fa1 lcs.length fc1) lcs) (hms:MthsIn w bm (.slice fa2 lms.length fc2) lms) (hbd:∀ p∈lms,Pf.MBd p.1) :
  Calls Tryz.prog 71 #[.agg #[.slice fa1 lcs.length fc1,.slice fa2 lms.length fc2],.agg #[.slice (some ⟨tg,0,none⟩) T.length cap,.slice ya yn yc]] w fun e w' =>
   e=.returned (.agg #[.int .i64 (Pf.bodies T (Cd.fieldSum (lcs.map Prod.fst):Int) (lms.map fun p=>p.1.cl) 0 (lms.map Prod.fst)).1,.int .i64 (Pf.bodies T (Cd.fieldSum (lcs.map Prod.fst):Int) (lms.map fun p=>p.1.cl) 0 (lms.map Prod.fst)).2.1,
    .int .i64 (Pf.bodies T (Cd.fieldSum (lcs.map Prod.fst):Int) (lms.map fun p=>p.1.cl) 0 (lms.map Prod.fst)).2.2])∧Below w.heap.size w w':=by
 have hIB:=fun cl nm pa pl pc r1 r2 st ca ha ma cc hc mc (m:Rd.Mth) lmp w' (h:Below w.heap.size w w') h1 h2 h3 h4 h5 =>
  inBody_any fa1 fa2 fc1 fc2 tg cap ya yn yc cl nm pa pl pc r1 r2 st ca ha ma cc hc mc T bm lcs lms m lmp w' hT (hTr.below h) hm6 hc6 hcf (hcs.kp (Kp.of_below (e:=none) h) (by decide) (by decide)) (hms.kp (Kp.of_below (e:=none) h) (by decide) (by decide) (by decide) (by decide) (by decide)) h1 h2 h3 h4 h5
 generalize (Cd.fieldSum (lcs.map Prod.fst):Int)=nf at *
 generalize (lms.map fun p=>p.1.cl)=ow at *
 generalize hq:Pf.bodies T nf ow 0 (lms.map Prod.fst)=q
 obtain ⟨R1,R2,R3⟩:=q
 have HQ:Hid (Pf.bodies T nf ow 0 ((lms.map Prod.fst).drop 0)=(R1,R2,R3)):=hq
 have HIB:=hide hIB
 clear hq hIB
 have hB0:=below3 w (.cells #[.slice fa1 lcs.length fc1,.slice fa2 lms.length fc2] 38) (.cells #[.slice (some ⟨tg,0,none⟩) T.length cap,.slice ya yn yc] 87) (.cells #[.int .i64 0,.int .i64 0,.int .i64 0] 40)
 have C0:=blks3 w (.cells #[.slice fa1 lcs.length fc1,.slice fa2 lms.length fc2] 38) (.cells #[.slice (some ⟨tg,0,none⟩) T.length cap,.slice ya yn yc] 87) (.cells #[.int .i64 0,.int .i64 0,.int .i64 0] 40)
 go_enter Tryz.func71,Tryz.ntmps71
 go_wp2
 go_loopw [11] (fun v wr=>∃ k:Nat,k≤lms.length∧v=.int .i64 (k:Int)∧Hid (Pf.bodies T nf ow k ((lms.map Prod.fst).drop k)=(R1,R2,R3))∧Below w.heap.size w wr∧wr.heap[w.heap.size]?=some (.cells #[.slice fa1 lcs.length fc1,.slice fa2 lms.length fc2] 38 (0,0)) ∧
   wr.heap[w.heap.size+1]?=some (.cells #[.slice (some ⟨tg,0,none⟩) T.length cap,.slice ya yn yc] 87 (0,0))∧wr.heap[w.heap.size+1+1]?=some (.cells #[.int .i64 0,.int .i64 0,.int .i64 0] 40 (0,0)))
  (fun v _=>lms.length - (intOf v).toNat)
 case atStart=>exact ⟨0,by omega,rfl,HQ,hB0,C0.1,C0.2.1,C0.2.2⟩
 case round =>
  clear HQ hB0 C0
  obtain ⟨k,hk,rfl,HQ,hB,CF,CT,CR⟩:=hrel
  have hBs:=hB.size
  by_cases hkn:k < lms.length
  ·have hmr:MthsIn wr bm (.slice fa2 lms.length fc2) lms:=hms.kp (Kp.of_below (e:=none) hB) (by decide) (by decide) (by decide) (by decide) (by decide)
   obtain ⟨o,g,hg,hglt,hrow,his⟩:=hmr.mth hkn
   replace hrow:=row10 hrow
   have hmb:=hbd _ (List.getElem_mem hkn)
   have hd:(lms.map Prod.fst).drop k=lms[k].1 :: (lms.map Prod.fst).drop (k+1):=by
    rw [List.drop_eq_getElem_cons (by simpa using hkn)]
    simp
   have hr:=unhide HQ
   rw [hd,Pf.bodies] at hr
   clear hd
   generalize lms[k].1=y at *
   obtain ⟨-,-,-,-,e5,-,-,-,e8,hco,e9,hhs,e10,lm,hlm,hmp⟩:=his
   have e10':o.ml=lm.length:=by rw [e10,← hlm]; simp
   obtain ⟨cl,nm,pa,pl,pc,r1,r2,lo,st,ca,cn,cc,ha,hl,hc,ma,ml,mc⟩:=o
   simp only at hrow e5 e8 e9 e10' hco hhs hmp
   subst e5 e8 e9 e10'
   obtain ⟨y0,y1,y2,y3,y4,y5,y6,y7,y8,y9⟩:=hrow
   have hX1:Below wr.heap.size wr (wr.alloc (.cells #[.int .i64 cl,.int .i64 nm,.slice pa pl pc,.int .i64 r1,.int .i64 r2,.int .i64 y.locals,.int .i64 st,.slice ca y.code.length cc,.slice ha y.handlers.length hc,.slice ma lm.length mc] 92)):=(Below.refl _ _).alloc (Nat.le_refl _) _
   have hc1:=unhide HIB cl nm pa pl pc r1 r2 st ca ha ma cc hc mc y lm _ (hB.trans (hX1.mono hBs)) hmb hlm (hco.kp (Kp.of_below (e:=none) hX1) (by decide)) (hhs.kp (Kp.of_below (e:=none) hX1) (by decide)) (hmp.kp (Kp.of_below (e:=none) hX1) (by decide) (by decide))
   simp only [PBd.val] at hc1
   generalize hb:Pf.body T nf ow y=b at *
   obtain ⟨b1,b2⟩:=b
   simp only at hc1 hr
   have HC:=hide hc1
   clear hc1 hb hmr hmb e10 hlm hco hhs hmp HQ
   subst hg
   have x0:=blk_cell CF 0
   have x1:=blk_cell CF 1
   have t0:=blk_cell CT 0
   have t1:=blk_cell CT 1
   simp at x0 x1 t0 t1
   have lF:=lt_of_block CF
   have lT:=lt_of_block CT
   have kb:(k:Int) < (lms.length:Int):=by omega
   by_cases h0:b1=0
   ·subst h0
    have HG:Hid (Pf.bodies T nf ow (k+1) ((lms.map Prod.fst).drop (k+1))=(R1,R2,R3)):=by unfold Hid; rw [← hr]; simp
    clear hr
    go_wp2_with fail
    refine (unhide HC).mono ?_
    rintro e w2 ⟨rfl,hb2⟩
    have hX2:=(hX1.trans (hb2.mono hX1.size)).alloc (Nat.le_trans hX1.size hb2.size) (.cells #[.int .i64 0,.int .i64 0,.int .i64 b2] 40)
    have hB2:=hB.trans (hX2.mono hBs)
    have CF2:=stay hX2 CF
    have CT2:=stay hX2 CT
    have CR2:=stay hX2 CR
    clear hb2 hX1 hX2 y0 y1 y2 y3 y4 y5 y6 y7 y8 y9 x0 x1 t0 t1 lF lT CF CT CR hB
    go_wp2
    go_roundw
    case rel=>exact ⟨k+1,by omega,by go_num,HG,hB2,CF2,CT2,CR2⟩
    case measure=>simp [intOf]; omega
   ·rw [if_pos h0] at hr
    have HE:=hide hr
    have h0':(b1 != 0)=true:=by simpa using h0
    clear hr h0
    go_wp2_with fail
    refine (unhide HC).mono ?_
    rintro e w2 ⟨rfl,hb2⟩
    have hX2:=hX1.trans (hb2.mono hX1.size)
    have hB2:=hB.trans (hX2.mono hBs)
    have CR2:=stay hX2 CR
    have lR:=lt_of_block CR2
    have hB2s:=hB2.size
    have hw2:=hX2.size
    have z0:=blk_cell CR2 0
    have z1:=blk_cell CR2 1
    have z2:=blk_cell CR2 2
    have q0:=blk_free CR2 0
    have q1:=blk_free CR2 1
    have q2:=blk_free CR2 2
    simp at z0 z1 z2
    clear hb2 hX1 hX2 y0 y1 y2 y3 y4 y5 y6 y7 y8 y9 x0 x1 t0 t1 lF lT CF CT CR hB
    go_wp2_with fail
    refine bodyPost_ret (v:=.agg #[.int .i64 b1,.int .i64 (k:Int),.int .i64 b2]) (by simp [results,Tryz.results71,go_sem,z0,z1,z2,lR]) rfl ?_
    have e:=unhide HE
    simp only [Prod.mk.injEq] at e
    obtain ⟨rfl,rfl,rfl⟩:=e
    exact ⟨rfl,(((hB2.setCell (by simp; omega) _).setCell (by simp; omega) _).setCell (by simp; omega) _).alloc (by simp; omega) _⟩
  ·have HE:Hid ((R1,R2,R3)=((0:Int),(0:Int),(0:Int))):=by unfold Hid; rw [← unhide HQ,List.drop_eq_nil_of_le (by simp; omega)]; rfl
   have kb:¬ (k:Int) < (lms.length:Int):=by omega
   clear HQ
   have z0:=blk_cell CR 0
   have z1:=blk_cell CR 1
   have z2:=blk_cell CR 2
   have q0:=blk_free CR 0
   have q1:=blk_free CR 1
   have q2:=blk_free CR 2
   simp at z0 z1 z2
   go_wp2_with fail
   refine bodyPost_ret (v:=.agg #[.int .i64 0,.int .i64 0,.int .i64 0]) (by simp [results,Tryz.results71,go_sem,z0,z1,z2]) rfl ?_
   have e:=unhide HE
   simp only [Prod.mk.injEq] at e
   obtain ⟨rfl,rfl,rfl⟩:=e
   exact ⟨rfl,((hB.setCell (by simp; omega) _).setCell (by simp; omega) _).setCell (by simp; omega) _⟩
end Go.Proofs.YteffpdofcgbokaaGreat

/-
  The walks over faults.Find and stackmap.read.
-/
namespace Go.Proofs.YteffpdofcgbokaaGreat
open Go.RowKit

theorem TreeIn.set {w:World}{g b i:Nat}{l:List Int} (h:TreeIn w g l) (hb:b ≠ g) (u:Value):TreeIn (w.setCell ⟨b,i,none⟩ u) g l :=
 ⟨by simpa [World.setCell] using h.1,fun j hj=>by rw [World.cell?_setCell_other _ _ _ _ (by intro e; exact hb (congrArg Addr.block e))]; exact h.2 j hj⟩

set_option maxRecDepth 100000 in
set_option maxHeartbeats 40000000 in
theorem Find_any (fa1 fa2:Option Addr) (fc1 fc2:Nat) (lcs:List (Rd.Cls × Value)) (lms:List (Rd.Mth × MthV)) (bm:Nat) (w:World)
  (hm6:lms.length≤6) (hc6:lcs.length≤6) (hcf:∀ p∈lcs,p.1.fields.length≤1000) (hcs:ClssIn w bm (.slice fa1 lcs.length fc1) lcs) (hms:MthsIn w bm (.slice fa2 lms.length fc2) lms) (hbd:∀ p∈lms,Pf.MBd p.1) :
  Calls Tryz.prog 39 #[.agg #[.slice fa1 lcs.length fc1,.slice fa2 lms.length fc2]] w fun e w' =>
   e=.returned (.agg #[.int .i64 (Pf.find ⟨lcs.map Prod.fst,lms.map Prod.fst⟩).1,.int .i64 (Pf.find ⟨lcs.map Prod.fst,lms.map Prod.fst⟩).2.1,.int .i64 (Pf.find ⟨lcs.map Prod.fst,lms.map Prod.fst⟩).2.2])∧Below w.heap.size w w':=by
 have HCS:∀ w',Below w.heap.size w w'→ClssIn w' bm (.slice fa1 lcs.length fc1) lcs:=fun w' h=>hcs.kp (Kp.of_below (e:=none) h) (by decide) (by decide)
 have HMS:∀ w',Below w.heap.size w w'→MthsIn w' bm (.slice fa2 lms.length fc2) lms:=fun w' h=>hms.kp (Kp.of_below (e:=none) h) (by decide) (by decide) (by decide) (by decide) (by decide)
 have hIC:=fun w' (h:Below w.heap.size w w')=>inClasses_any fa1 fa2 lcs.length fc1 lms.length fc2 bm lcs w' hc6 hcf (HCS w' h)
 have hTO:=fun w' (h:Below w.heap.size w w')=>treeOf_any fa1 fa2 lcs.length fc1 lms.length fc2 bm lcs w' hc6 (HCS w' h)
 have hTl:(Tr.tree (lcs.map Prod.fst)).length≤1000:=by rw [tree_len]; simp; omega
 have hIH:=fun ya yn yc tg cap w' (h:Below w.heap.size w w') hTr=>inHeads_any (ya:=ya) (yn:=yn) (yc:=yc) fa1 fa2 lcs.length fc1 fc2 lms (Tr.tree (lcs.map Prod.fst)) tg cap bm w' hTl hTr hm6 (HMS w' h) (fun p hp=>by have:=(hbd p hp).ps; omega)
 have hIB:=fun ya yn yc tg cap w' (h:Below w.heap.size w w') hTr=>inBodies_any (ya:=ya) (yn:=yn) (yc:=yc) fa1 fa2 fc1 fc2 lcs lms (Tr.tree (lcs.map Prod.fst)) tg cap bm w' hTl hTr hm6 hc6 hcf (HCS w' h) (HMS w' h) hbd
 have how:(lms.map fun p=>p.1.cl)=(lms.map Prod.fst).map Rd.Mth.cl:=by simp
 rw [how] at hIB
 generalize hR:Pf.find ⟨lcs.map Prod.fst,lms.map Prod.fst⟩=R
 unfold Pf.find Pf.rest at hR
 simp only at hR
 generalize Tr.tree (lcs.map Prod.fst)=T at *
 generalize Tr.inCl T 0 (lcs.map Prod.fst)=ic at *
 generalize Pf.bodies T (Cd.fieldSum (lcs.map Prod.fst):Int) ((lms.map Prod.fst).map Rd.Mth.cl) 0 (lms.map Prod.fst)=bo at *
 generalize hhd:Pf.heads T (lms.map Prod.fst) 0 (lms.map Prod.fst)=hd at *
 obtain ⟨i1,i2⟩:=ic
 obtain ⟨b1,b2,b3⟩:=bo
 obtain ⟨R1,R2,R3⟩:=R
 simp only at hIC hIB hR
 have HIC:=hide hIC
 have HTO:=hide hTO
 have HIH:=hide hIH
 have HIB:=hide hIB
 clear hIC hTO hIH hIB HCS HMS hcs hms how hhd hbd
 have hB0:=below2 w (.cells #[.slice fa1 lcs.length fc1,.slice fa2 lms.length fc2] 38) (.cells #[.int .i64 0,.int .i64 0,.int .i64 0] 40)
 have C0:=alloc1_blk w (.cells #[.slice fa1 lcs.length fc1,.slice fa2 lms.length fc2] 38) (.cells #[.int .i64 0,.int .i64 0,.int .i64 0] 40)
 have D0:=alloc2_blk w (.cells #[.slice fa1 lcs.length fc1,.slice fa2 lms.length fc2] 38) (.cells #[.int .i64 0,.int .i64 0,.int .i64 0] 40)
 by_cases h1:i1=0
 ·subst h1
  rw [if_neg (by simp)] at hR
  by_cases h2:0≤hd
  ·rw [if_pos h2] at hR
   have HE:=hide hR
   have hre:Pf.hres hd=(4,hd):=if_pos h2
   rw [hre] at HIH
   simp only at HIH
   clear hR hre h2
   go_enter Tryz.func39,Tryz.ntmps39
   go_wp2_with fail
   refine (unhide HIC _ hB0).mono ?_
   rintro e w1 ⟨rfl,hb1⟩
   have hB1:=(hB0.trans (hb1.mono hB0.size))
   have C1:=stay hb1 C0
   have D1:=stay hb1 D0
   have hs1:=hB1.size
   have lD1:=lt_of_block D1
   have x0:=blk_cell C1 0
   have x1:=blk_cell C1 1
   have l1:=lt_of_block C1
   simp at x0 x1
   have hB1':=hB1.alloc hs1 (.cells #[.int .i64 0,.int .i64 i2,.int .i64 0] 40)
   have C1':=stay1 C1 (.cells #[.int .i64 0,.int .i64 i2,.int .i64 0] 40)
   have D1':=stay1 D1 (.cells #[.int .i64 0,.int .i64 i2,.int .i64 0] 40)
   have E1':=alloc_blk w1 (.cells #[.int .i64 0,.int .i64 i2,.int .i64 0] 40)
   clear C0 D0 hB0 hb1
   go_wp2_with fail
   refine (unhide HTO _ hB1').mono ?_
   rintro e w2 ⟨tg,cap,ya,yn,yc,rfl,hTr,-,-,hb2⟩
   have hB2:=hB1'.trans (hb2.mono hB1'.size)
   have C2:=stay hb2 C1'
   have D2:=stay hb2 D1'
   have E2:=stay hb2 E1'
   have hs2:=hB2.size
   have y0:=blk_cell C2 0
   have y1:=blk_cell C2 1
   have l2:=lt_of_block C2
   simp at y0 y1
   have hB2':=hB2.alloc hs2 (.cells #[.slice (some ⟨tg,0,none⟩) T.length cap,.slice ya yn yc] 87)
   have D2':=stay1 D2 (.cells #[.slice (some ⟨tg,0,none⟩) T.length cap,.slice ya yn yc] 87)
   have E2':=stay1 E2 (.cells #[.slice (some ⟨tg,0,none⟩) T.length cap,.slice ya yn yc] 87)
   clear x0 x1 l1 C1 D1 C1' D1' E1' hB1' hb2
   go_wp2_with fail
   refine (unhide HIH ya yn yc tg cap _ hB2' (hTr.alloc _)).mono ?_
   rintro e w3 ⟨rfl,hb3⟩
   have hB3:=hB2'.trans (hb3.mono hB2'.size)
   have D3:=stay hb3 D2'
   have E3:=stay hb3 E2'
   have hs3:=hB3.size
   have lE:=lt_of_block E3
   have lD:=lt_of_block D3
   have e0:=blk_cell E3 0
   have e1:=blk_cell E3 1
   have e2:=blk_cell E3 2
   have g0:=blk_free E3 0
   have g1:=blk_free E3 1
   have g2:=blk_free E3 2
   have z0:=blk_cell D3 0
   have z1:=blk_cell D3 1
   have z2:=blk_cell D3 2
   have q0:=blk_free D3 0
   have q1:=blk_free D3 1
   have q2:=blk_free D3 2
   simp at e0 e1 e2 z0 z1 z2
   clear y0 y1 l2 C2 D2 E2 D2' E2' hB2' hb3
   have hne:w1.heap.size ≠ w.heap.size+1:=by omega
   have hne':w.heap.size+1 ≠ w1.heap.size:=by omega
   go_wp2_with fail
   refine bodyPost_ret (v:=.agg #[.int .i64 4,.int .i64 hd,.int .i64 0]) (by simp [results,Tryz.results39,go_sem,z0,z1,z2]) rfl ?_
   have e:=unhide HE
   simp only [Prod.mk.injEq] at e
   obtain ⟨rfl,rfl,rfl⟩:=e
   exact ⟨rfl,(((((hB3.setCell (by simp; omega) _).setCell (by simp; omega) _).setCell (by simp; omega) _).setCell (by simp) _).setCell (by simp) _).setCell (by simp) _⟩
  ·rw [if_neg h2] at hR
   have HE:=hide hR
   have hre:Pf.hres hd=(0,0):=if_neg h2
   rw [hre] at HIH
   simp only at HIH
   clear hR hre h2
   go_enter Tryz.func39,Tryz.ntmps39
   go_wp2_with fail
   refine (unhide HIC _ hB0).mono ?_
   rintro e w1 ⟨rfl,hb1⟩
   have hB1:=(hB0.trans (hb1.mono hB0.size))
   have C1:=stay hb1 C0
   have D1:=stay hb1 D0
   have hs1:=hB1.size
   have lD1:=lt_of_block D1
   have x0:=blk_cell C1 0
   have x1:=blk_cell C1 1
   have l1:=lt_of_block C1
   simp at x0 x1
   have hB1':=hB1.alloc hs1 (.cells #[.int .i64 0,.int .i64 i2,.int .i64 0] 40)
   have C1':=stay1 C1 (.cells #[.int .i64 0,.int .i64 i2,.int .i64 0] 40)
   have D1':=stay1 D1 (.cells #[.int .i64 0,.int .i64 i2,.int .i64 0] 40)
   have E1':=alloc_blk w1 (.cells #[.int .i64 0,.int .i64 i2,.int .i64 0] 40)
   clear C0 D0 hB0 hb1
   go_wp2_with fail
   refine (unhide HTO _ hB1').mono ?_
   rintro e w2 ⟨tg,cap,ya,yn,yc,rfl,hTr,-,htg,hb2⟩
   have hB2:=hB1'.trans (hb2.mono hB1'.size)
   have C2:=stay hb2 C1'
   have D2:=stay hb2 D1'
   have E2:=stay hb2 E1'
   have hs2:=hB2.size
   have y0:=blk_cell C2 0
   have y1:=blk_cell C2 1
   have l2:=lt_of_block C2
   simp at y0 y1
   have hB2':=hB2.alloc hs2 (.cells #[.slice (some ⟨tg,0,none⟩) T.length cap,.slice ya yn yc] 87)
   have C2':=stay1 C2 (.cells #[.slice (some ⟨tg,0,none⟩) T.length cap,.slice ya yn yc] 87)
   have T2':=alloc_blk w2 (.cells #[.slice (some ⟨tg,0,none⟩) T.length cap,.slice ya yn yc] 87)
   have D2':=stay1 D2 (.cells #[.slice (some ⟨tg,0,none⟩) T.length cap,.slice ya yn yc] 87)
   have E2':=stay1 E2 (.cells #[.slice (some ⟨tg,0,none⟩) T.length cap,.slice ya yn yc] 87)
   have hb2':w1.heap.size < w2.heap.size:=lt_of_block E2
   clear x0 x1 l1 C1 D1 C1' D1' E1' hB1' hb2
   go_wp2_with fail
   refine (unhide HIH ya yn yc tg cap _ hB2' (hTr.alloc _)).mono ?_
   rintro e w3 ⟨rfl,hb3⟩
   have hB3:=hB2'.trans (hb3.mono hB2'.size)
   have D3:=stay hb3 D2'
   have E3:=stay hb3 E2'
   have hs3:=hB3.size
   have lE:=lt_of_block E3
   have lD:=lt_of_block D3
   have e0:=blk_cell E3 0
   have e1:=blk_cell E3 1
   have e2:=blk_cell E3 2
   have g0:=blk_free E3 0
   have g1:=blk_free E3 1
   have g2:=blk_free E3 2
   simp at e0 e1 e2
   have C3:=stay hb3 C2'
   have T3:=stay hb3 T2'
   have lC:=lt_of_block C3
   have lT:=lt_of_block T3
   have c0:=blk_cell C3 0
   have c1:=blk_cell C3 1
   have t0:=blk_cell T3 0
   have t1:=blk_cell T3 1
   simp at c0 c1 t0 t1
   have hTr3:=(hTr.alloc (.cells #[.slice (some ⟨tg,0,none⟩) T.length cap,.slice ya yn yc] 87)).below hb3
   clear y0 y1 l2 C2 D2 E2 D2' E2' C2' T2' hB2' hb3
   have hne:w1.heap.size ≠ w.heap.size+1:=by omega
   have hne':w.heap.size+1 ≠ w1.heap.size:=by omega
   have hne2:w2.heap.size ≠ w1.heap.size:=by omega
   have htg':w1.heap.size ≠ tg:=by simp at htg; omega
   have hTr4:=((hTr3.set (i:=0) htg' (.int .i64 0)).set (i:=1) htg' (.int .i64 0)).set (i:=2) htg' (.int .i64 0)
   have hB4:=((hB3.setCell (p:=⟨w1.heap.size,0,none⟩) (by simp; omega) (.int .i64 0)).setCell (p:=⟨w1.heap.size,1,none⟩) (by simp; omega) (.int .i64 0)).setCell (p:=⟨w1.heap.size,2,none⟩) (by simp; omega) (.int .i64 0)
   have D4:(((w3.setCell ⟨w1.heap.size,0,none⟩ (.int .i64 0)).setCell ⟨w1.heap.size,1,none⟩ (.int .i64 0)).setCell ⟨w1.heap.size,2,none⟩ (.int .i64 0)).heap[w.heap.size+1]?=some (.cells #[.int .i64 0,.int .i64 0,.int .i64 0] 40 (0,0)):=by
    rw [Below.heap_setCell _ _ _ _ (by simpa using hne'),Below.heap_setCell _ _ _ _ (by simpa using hne'),Below.heap_setCell _ _ _ _ (by simpa using hne')]
    exact D3
   clear D3 hTr3 hTr hB3
   go_wp2_with fail
   refine (unhide HIB ya yn yc tg cap _ hB4 hTr4).mono ?_
   rintro e w5 ⟨rfl,hb5⟩
   have hB5:=hB4.trans (hb5.mono hB4.size)
   have D5:=stay hb5 D4
   have z0:=blk_cell D5 0
   have z1:=blk_cell D5 1
   have z2:=blk_cell D5 2
   have q0:=blk_free D5 0
   have q1:=blk_free D5 1
   have q2:=blk_free D5 2
   simp at z0 z1 z2
   go_wp2_with fail
   refine bodyPost_ret (v:=.agg #[.int .i64 b1,.int .i64 b2,.int .i64 b3]) (by simp [results,Tryz.results39,go_sem,z0,z1,z2]) rfl ?_
   have e:=unhide HE
   simp only [Prod.mk.injEq] at e
   obtain ⟨rfl,rfl,rfl⟩:=e
   exact ⟨rfl,((hB5.setCell (by simp) _).setCell (by simp) _).setCell (by simp) _⟩
 ·rw [if_pos h1] at hR
  have HE:=hide hR
  have h1':(i1 != 0)=true:=by simpa using h1
  clear hR h1
  go_enter Tryz.func39,Tryz.ntmps39
  go_wp2_with fail
  refine (unhide HIC _ hB0).mono ?_
  rintro e w1 ⟨rfl,hb1⟩
  have hB1:=(hB0.trans (hb1.mono hB0.size))
  have D1:=stay hb1 D0
  have hs1:=hB1.size
  have lD:=lt_of_block D1
  have z0:=blk_cell D1 0
  have z1:=blk_cell D1 1
  have z2:=blk_cell D1 2
  have q0:=blk_free D1 0
  have q1:=blk_free D1 1
  have q2:=blk_free D1 2
  simp at z0 z1 z2
  go_wp2_with fail
  refine bodyPost_ret (v:=.agg #[.int .i64 i1,.int .i64 i2,.int .i64 0]) (by simp [results,Tryz.results39,go_sem,z0,z1,z2,lD]) rfl ?_
  have e:=unhide HE
  simp only [Prod.mk.injEq] at e
  obtain ⟨rfl,rfl,rfl⟩:=e
  exact ⟨rfl,(((hB1.setCell (by simp) _).setCell (by simp) _).setCell (by simp) _).alloc (by simp; omega) _⟩
end Go.Proofs.YteffpdofcgbokaaGreat

/-
  The walk over stackmap.read.
-/
namespace Go.Proofs.YteffpdofcgbokaaGreat
open Go.RowKit

theorem list_fst {α β:Type}{l:List (α × β)}{r:List α} (h:l.map Prod.fst=r) {P:α→Prop} (hp:∀ x∈r,P x):∀ p∈l,P p.1:=by
 intro p hpm
 refine hp p.1 ?_
 rw [← h]
 exact List.mem_map_of_mem hpm

theorem bodies_zero {T:List Int}{nf:Int}{ow:List Int}:∀ (l:List Rd.Mth) (k:Nat),(Pf.bodies T nf ow k l).1=0→Pf.bodies T nf ow k l=(0,0,0):=by
 intro l
 induction l with
 | nil=>intro k _; rfl
 | cons m r ih =>
  intro k h
  unfold Pf.bodies at h ⊢
  by_cases h0:(Pf.body T nf ow m).1 ≠ 0
  ·rw [if_pos h0] at h
   exact absurd h h0
  ·rw [if_neg h0] at h ⊢
   exact ih _ h
theorem find_zero (f:Rd.Fil) (h:(Pf.find f).1=0):Pf.find f=(0,0,0):=by
 unfold Pf.find at h ⊢
 by_cases h1:(Tr.inCl (Tr.tree f.classes) 0 f.classes).1 ≠ 0
 ·rw [if_pos h1] at h
  exact absurd h h1
 ·rw [if_neg h1] at h ⊢
  unfold Pf.rest at h ⊢
  by_cases h2:0≤Pf.heads (Tr.tree f.classes) f.methods 0 f.methods
  ·rw [if_pos h2] at h
   simp at h
  ·rw [if_neg h2] at h ⊢
   exact bodies_zero _ _ h

set_option maxRecDepth 100000 in
set_option maxHeartbeats 40000000 in
theorem sread_any (s:ByteArray) (w:World) (hs:s.size≤maxLen) :
  Calls Tryz.prog 18 #[.string s] w fun e w' =>
   ∃ a1 n1 c1 a2 n2 c2,e=.returned (.tuple #[.agg #[.slice a1 n1 c1,.slice a2 n2 c2],.agg #[.int .i64 (Pf.read s.data.toList).1,.int .i64 (Pf.read s.data.toList).2.1,.int .i64 (Pf.read s.data.toList).2.2]]) ∧
    ((Pf.read s.data.toList).1=0→∃ lcs lms,lcs.map Prod.fst=(Rd.read s.data.toList).1.classes∧ClssIn w' w.heap.size (.slice a1 n1 c1) lcs∧lms.map Prod.fst=(Rd.read s.data.toList).1.methods∧MthsIn w' w.heap.size (.slice a2 n2 c2) lms)∧Below w.heap.size w w':=by
 have hRd:=fun w=>read_any s w hs
 obtain ⟨hm6,hmb⟩:=read_mbd s.data.toList
 obtain ⟨hc6,hcf⟩:=read_bd s.data.toList
 have hPz:(Pf.read s.data.toList).1=0→Pf.read s.data.toList=(0,0,0):=by
  intro h
  unfold Pf.read at h ⊢
  by_cases h1:(Rd.read s.data.toList).2 ≠ 0
  ·rw [if_pos h1] at h
   exact absurd h h1
  ·rw [if_neg h1] at h ⊢
   exact find_zero _ h
 generalize hP:Pf.read s.data.toList=P at *
 unfold Pf.read at hP
 generalize Rd.read s.data.toList=q at *
 obtain ⟨⟨cs,ms⟩,er⟩:=q
 obtain ⟨P1,P2,P3⟩:=P
 simp only [Prod.mk.injEq] at hRd hm6 hmb hc6 hcf hP hPz ⊢
 have HPZ:=hide hPz
 clear hPz
 have HRD:=hide hRd
 have HMB:=hide hmb
 have HCF:=hide hcf
 clear hRd hmb hcf
 have hB0:=below2 w (.cells #[.slice none 0 0,.slice none 0 0] 38) (.cells #[.int .i64 0,.int .i64 0,.int .i64 0] 40)
 have C0:=alloc1_blk w (.cells #[.slice none 0 0,.slice none 0 0] 38) (.cells #[.int .i64 0,.int .i64 0,.int .i64 0] 40)
 have D0:=alloc2_blk w (.cells #[.slice none 0 0,.slice none 0 0] 38) (.cells #[.int .i64 0,.int .i64 0,.int .i64 0] 40)
 by_cases h1:er=0
 ·subst h1
  rw [if_neg (by simp)] at hP
  have HP:=hide hP
  clear hP
  go_enter Tryz.func18,Tryz.ntmps18
  go_wp2_with fail
  refine (unhide HRD _).mono ?_
  rintro e w1 ⟨a1,n1,c1,a2,n2,c2,rfl,⟨lcs,hl1,hcs⟩,⟨lms,hl2,hms⟩,hb1⟩
  obtain ⟨xa,xc,hsh⟩:=own_shape hcs.1
  simp only [Value.slice.injEq] at hsh
  obtain ⟨rfl,rfl,rfl⟩:=hsh
  obtain ⟨xa,xc,hsh⟩:=own_shape hms.1
  simp only [Value.slice.injEq] at hsh
  obtain ⟨rfl,rfl,rfl⟩:=hsh
  have hB1:=hB0.trans (hb1.mono hB0.size)
  have hs1:=hB1.size
  have C1:=stay hb1 C0
  have D1:=stay hb1 D0
  have lC:=lt_of_block C1
  have lD:=lt_of_block D1
  have hcs':ClssIn w1 (w.heap.size+1+1) (.slice a1 lcs.length c1) lcs:=by simpa using hcs
  have hms':MthsIn w1 (w.heap.size+1+1) (.slice a2 lms.length c2) lms:=by simpa using hms
  have hK1:Kp none (w.heap.size+1+1) w1 (w1.alloc (.cells #[.slice a1 lcs.length c1,.slice a2 lms.length c2] 38)):=Kp.alloc _ _
  have hfi:=Find_any a1 a2 c1 c2 lcs lms (w.heap.size+1+1) (w1.alloc (.cells #[.slice a1 lcs.length c1,.slice a2 lms.length c2] 38))
   (by have:=congrArg List.length hl2; simp at this; omega) (by have:=congrArg List.length hl1; simp at this; omega) (list_fst hl1 (unhide HCF)) (hcs'.kp hK1 (by decide) (by decide)) (hms'.kp hK1 (by decide) (by decide) (by decide) (by decide) (by decide)) (list_fst hl2 (unhide HMB))
  rw [hl1,hl2,unhide HP] at hfi
  have HFI:=hide hfi
  have hB1':=hB1.alloc hs1 (.cells #[.slice a1 lcs.length c1,.slice a2 lms.length c2] 38)
  have C1':=stay1 C1 (.cells #[.slice a1 lcs.length c1,.slice a2 lms.length c2] 38)
  have D1':=stay1 D1 (.cells #[.slice a1 lcs.length c1,.slice a2 lms.length c2] 38)
  have E1':=alloc_blk w1 (.cells #[.slice a1 lcs.length c1,.slice a2 lms.length c2] 38)
  clear hfi hcs hms hb1 C0 D0 hB0 C1 D1 hK1
  go_wp2_with fail
  refine (unhide HFI).mono ?_
  rintro e w2 ⟨rfl,hb2⟩
  have hB2:=hB1'.trans (hb2.mono hB1'.size)
  have C2:=stay hb2 C1'
  have D2:=stay hb2 D1'
  have E2:=stay hb2 E1'
  have hcs2:=(hcs'.kp (Kp.alloc (e:=none) w1 (.cells #[.slice a1 lcs.length c1,.slice a2 lms.length c2] 38)) (by decide) (by decide)).kp (Kp.of_below (e:=none) hb2) (by decide) (by decide)
  have hms2:=(hms'.kp (Kp.alloc (e:=none) w1 (.cells #[.slice a1 lcs.length c1,.slice a2 lms.length c2] 38)) (by decide) (by decide) (by decide) (by decide) (by decide)).kp (Kp.of_below (e:=none) hb2) (by decide) (by decide) (by decide) (by decide) (by decide)
  have hs2:=hB2.size
  have lC2:=lt_of_block C2
  have lD2:=lt_of_block D2
  have lE2:=lt_of_block E2
  have x0:=blk_cell E2 0
  have x1:=blk_cell E2 1
  have y0:=blk_cell C2 0
  have y1:=blk_cell C2 1
  have z0:=blk_cell D2 0
  have z1:=blk_cell D2 1
  have z2:=blk_cell D2 2
  have p0:=blk_free C2 0
  have p1:=blk_free C2 1
  have q0:=blk_free D2 0
  have q1:=blk_free D2 1
  have q2:=blk_free D2 2
  simp at x0 x1 y0 y1 z0 z1 z2
  clear C1' D1' E1' hB1' hb2
  by_cases h2:P1=0
  ·obtain ⟨-,rfl,rfl⟩:=unhide HPZ h2
   subst h2
   go_wp2_with fail
   refine bodyPost_ret (v:=.tuple #[.agg #[.slice a1 lcs.length c1,.slice a2 lms.length c2],.agg #[.int .i64 0,.int .i64 0,.int .i64 0]]) (by simp [results,Tryz.results18,go_sem,y0,y1,z0,z1,z2,lC2,lD2]) rfl ?_
   have k1:Kp none (w.heap.size+1+1) w2 ((((((w2.setCell ⟨w.heap.size,0,none⟩ (.slice a1 lcs.length c1)).setCell ⟨w.heap.size,1,none⟩ (.slice a2 lms.length c2)).setCell ⟨w.heap.size+1,0,none⟩ (.int .i64 0)).setCell ⟨w.heap.size+1,1,none⟩ (.int .i64 0)).setCell ⟨w.heap.size+1,2,none⟩ (.int .i64 0)).alloc (.cells #[.int .i64 0,.int .i64 0,.int .i64 0] 40)) :=
    (((((Kp.set_lo (by omega) _).trans (Kp.set_lo (by omega) _)).trans (Kp.set_lo (by omega) _)).trans (Kp.set_lo (by omega) _)).trans (Kp.set_lo (by omega) _)).trans (Kp.alloc _ _)
   refine ⟨a1,lcs.length,c1,a2,lms.length,c2,rfl,?_,?_⟩
   ·first | intro _; exact ⟨lcs,lms,hl1,(hcs2.kp k1 (by decide) (by decide)).mono (by omega),hl2,(hms2.kp k1 (by decide) (by decide) (by decide) (by decide) (by decide)).mono (by omega)⟩ | exact ⟨lcs,hl1,(hcs2.kp k1 (by decide) (by decide)).mono (by omega),lms,hl2,(hms2.kp k1 (by decide) (by decide) (by decide) (by decide) (by decide)).mono (by omega)⟩
   ·exact (((((hB2.setCell (by simp) _).setCell (by simp) _).setCell (by simp) _).setCell (by simp) _).setCell (by simp) _).alloc (by simp; omega) _
  ·have h2':(P1 != 0)=true:=by simpa using h2
   go_wp2
   have H2:=hide h2
   clear h2
   go_region
   go_wp2_with fail
   refine bodyPost_ret (v:=.tuple #[.agg #[.slice none 0 0,.slice none 0 0],.agg #[.int .i64 P1,.int .i64 P2,.int .i64 P3]]) (by simp [results,Tryz.results18,go_sem,y0,y1,z0,z1,z2,lC2,lD2]) rfl ?_
   refine ⟨none,0,0,none,0,0,rfl,fun h=>absurd h (unhide H2),?_⟩
   exact ((((((hB2.setCell (by simp) _).setCell (by simp) _).setCell (by simp) _).setCell (by simp) _).setCell (by simp) _).alloc (by simp; omega) _).drew
 ·rw [if_pos h1] at hP
  have h1':(er != 0)=true:=by simpa using h1
  simp only [Prod.mk.injEq] at hP
  obtain ⟨rfl,rfl,rfl⟩:=hP
  have H1:=hide h1
  clear h1 HPZ
  go_enter Tryz.func18,Tryz.ntmps18
  go_wp2_with fail
  refine (unhide HRD _).mono ?_
  rintro e w1 ⟨a1,n1,c1,a2,n2,c2,rfl,-,-,hb1⟩
  have hB1:=hB0.trans (hb1.mono hB0.size)
  have hs1:=hB1.size
  have C1:=stay hb1 C0
  have D1:=stay hb1 D0
  have lC2:=lt_of_block C1
  have lD2:=lt_of_block D1
  have y0:=blk_cell C1 0
  have y1:=blk_cell C1 1
  have z0:=blk_cell D1 0
  have z1:=blk_cell D1 1
  have z2:=blk_cell D1 2
  have p0:=blk_free C1 0
  have p1:=blk_free C1 1
  have q0:=blk_free D1 0
  have q1:=blk_free D1 1
  have q2:=blk_free D1 2
  simp at y0 y1 z0 z1 z2
  go_wp2_with fail
  refine bodyPost_ret (v:=.tuple #[.agg #[.slice none 0 0,.slice none 0 0],.agg #[.int .i64 er,.int .i64 0,.int .i64 0]]) (by simp [results,Tryz.results18,go_sem,y0,y1,z0,z1,z2,lC2,lD2]) rfl ?_
  refine ⟨none,0,0,none,0,0,rfl,fun h=>absurd h (unhide H1),?_⟩
  exact (((((hB1.setCell (by simp) _).setCell (by simp) _).setCell (by simp) _).setCell (by simp) _).setCell (by simp) _).alloc (by simp; omega) _
end Go.Proofs.YteffpdofcgbokaaGreat

/-
  Lists of types that are only read: wherever they lie.
-/
namespace Go.Proofs.YteffpdofcgbokaaGreat
open Go.RowKit

/-- v reads as the types l -/
def TyR (w:World) (v:Value) (l:List (Int × Int)):Prop :=
 (v=.slice none 0 0∧l=[])∨∃ g o c,v=.slice (some ⟨g,o,none⟩) l.length c∧g < w.heap.size∧l.length≤c∧c≤maxLen∧∀ j x,(tcells l)[j]?=some x→w.cell? ⟨g,o+j,none⟩=some x
theorem TyR.nil (w:World):TyR w (.slice none 0 0) []:=.inl ⟨rfl,rfl⟩
theorem TyR.of_tys {w:World}{b:Nat}{v:Value}{l:List (Int × Int)} (h:TysAt w b v l):TyR w v l:=by
 obtain ⟨hl,⟨hv,hn⟩ | ⟨g,cap,cur,hv,hb,hg,hlen,hm,hsz,htk⟩⟩:=h
 ·exact .inl ⟨hv,List.eq_nil_of_length_eq_zero hn⟩
 ·refine .inr ⟨g,0,cap,hv,lt_of_block hg,hlen,hm,fun j u hu=>?_⟩
  have hj:j < (tcells l).length:=(List.getElem?_eq_some_iff.1 hu).1
  rw [Nat.zero_add,blk_cell hg,← hu,← htk,List.getElem?_take,if_pos (by rw [hl] at hj; exact hj)]
  simp
theorem TyR.below {w w':World}{v:Value}{l:List (Int × Int)} (h:TyR w v l) (hb:Below w.heap.size w w'):TyR w' v l:=by
 rcases h with h | ⟨g,o,c,hv,hg,h1,h2,h3⟩
 ·exact .inl h
 ·exact .inr ⟨g,o,c,hv,Nat.lt_of_lt_of_le hg hb.size,h1,h2,fun j x hx=>by rw [hb.cell (p:=⟨g,o+j,none⟩) hg]; exact h3 j x hx⟩
theorem TyR.shape {w:World}{v:Value}{l:List (Int × Int)} (h:TyR w v l):∃ a c,v=.slice a l.length c:=by
 rcases h with ⟨rfl,rfl⟩ | ⟨g,o,c,hv,_⟩
 ·exact ⟨none,0,rfl⟩
 ·exact ⟨_,c,hv⟩
theorem TyR.cap {w:World}{a:Option Addr}{n c:Nat}{l:List (Int × Int)} (h:TyR w (.slice a n c) l):n=l.length∧l.length≤c∧c≤maxLen:=by
 rcases h with ⟨h1,rfl⟩ | ⟨g,o,c',hv,_,h1,h2,_⟩
 ·simp only [Value.slice.injEq] at h1
  obtain ⟨_,rfl,rfl⟩:=h1
  exact ⟨rfl,Nat.le_refl _,Nat.zero_le _⟩
 ·simp only [Value.slice.injEq] at hv
  obtain ⟨_,rfl,rfl⟩:=hv
  exact ⟨rfl,h1,h2⟩
theorem TyR.at {w:World}{a:Option Addr}{n c:Nat}{l:List (Int × Int)} (h:TyR w (.slice a n c) l) (hn:0 < l.length) :
  ∃ g o,a=some ⟨g,o,none⟩∧g < w.heap.size∧∀ k (hk:k < l.length),w.cell? ⟨g,o+k * 2,none⟩=some (.int .i64 l[k].1)∧w.cell? ⟨g,o+k * 2+1,none⟩=some (.int .i64 l[k].2):=by
 rcases h with ⟨_,rfl⟩ | ⟨g,o,c',hv,hg,_,_,h3⟩
 ·simp at hn
 ·simp only [Value.slice.injEq] at hv
  refine ⟨g,o,hv.1,hg,fun k hk=>?_⟩
  obtain ⟨e1,e2,_⟩:=tcells_at l k hk
  exact ⟨h3 _ _ e1,by rw [Nat.add_assoc]; exact h3 _ _ e2⟩
theorem tcells_take (l:List (Int × Int)) (k:Nat):tcells (l.take k)=(tcells l).take (k * 2):=by
 induction l generalizing k with
 | nil=>simp [tcells]
 | cons x r ih =>
  cases k with
  | zero=>simp [tcells]
  | succ j =>
   have e:tcells (x :: r)=.int .i64 x.1 :: .int .i64 x.2 :: tcells r:=by simp [tcells]
   have e':tcells (x :: r.take j)=.int .i64 x.1 :: .int .i64 x.2 :: tcells (r.take j):=by simp [tcells]
   rw [List.take_succ_cons,e,e',ih,show (j+1) * 2=j * 2+1+1 by omega,List.take_succ_cons,List.take_succ_cons]
theorem tcells_drop (l:List (Int × Int)) (k:Nat):tcells (l.drop k)=(tcells l).drop (k * 2):=by
 induction l generalizing k with
 | nil=>simp [tcells]
 | cons x r ih =>
  cases k with
  | zero=>simp [tcells]
  | succ j =>
   have e:tcells (x :: r)=.int .i64 x.1 :: .int .i64 x.2 :: tcells r:=by simp [tcells]
   rw [List.drop_succ_cons,e,ih,show (j+1) * 2=j * 2+1+1 by omega,List.drop_succ_cons,List.drop_succ_cons]
theorem TyR.take {w:World}{a:Option Addr}{n c:Nat}{l:List (Int × Int)} (h:TyR w (.slice a n c) l) {k:Nat} (hk:k≤l.length):TyR w (.slice a k c) (l.take k):=by
 rcases h with ⟨h1,rfl⟩ | ⟨g,o,c',hv,hg,h1,h2,h3⟩
 ·simp only [Value.slice.injEq] at h1
  obtain ⟨rfl,rfl,rfl⟩:=h1
  have:k=0:=by simpa using hk
  subst this
  exact .inl ⟨rfl,rfl⟩
 ·simp only [Value.slice.injEq] at hv
  obtain ⟨rfl,rfl,rfl⟩:=hv
  have hl:(l.take k).length=k:=by simp; omega
  refine .inr ⟨g,o,c,by rw [hl],hg,by omega,h2,fun j x hx=>h3 j x ?_⟩
  rw [tcells_take,List.getElem?_take] at hx
  split at hx
  ·exact hx
  ·simp at hx
theorem TyR.drop {w:World}{g o:Nat}{n c:Nat}{l:List (Int × Int)} (h:TyR w (.slice (some ⟨g,o,none⟩) n c) l) {k m d:Nat} (hk:k≤l.length) (hm:m=l.length - k) (hd:d=c - k):TyR w (.slice (some ⟨g,o+k * 2,none⟩) m d) (l.drop k):=by
 rcases h with ⟨h1,rfl⟩ | ⟨g',o',c',hv,hg,h1,h2,h3⟩
 ·simp at h1
 ·simp only [Value.slice.injEq,Option.some.injEq,Addr.mk.injEq,and_true] at hv
  obtain ⟨⟨rfl,rfl⟩,rfl,rfl⟩:=hv
  have hl:(l.drop k).length=m:=by simp; omega
  refine .inr ⟨g,o+k * 2,d,by rw [hl],hg,by omega,by omega,fun j x hx=>?_⟩
  rw [tcells_drop,List.getElem?_drop] at hx
  rw [Nat.add_assoc]
  exact h3 _ _ hx
/-- a new row of one type, of two -/
theorem TyR.new1 (w:World) (k n:Int):TyR (w.alloc (.cells #[.int .i64 k,.int .i64 n] 48)) (.slice (some ⟨w.heap.size,0,none⟩) 1 1) [(k,n)]:=by
 refine .inr ⟨w.heap.size,0,1,rfl,by simp,by simp,by unfold maxLen; omega,fun j x hx=>?_⟩
 rw [blk_cell (alloc_blk w _),Nat.zero_add]
 simpa [tcells] using hx
theorem TyR.new2 (w:World) (k n k' n':Int):TyR (w.alloc (.cells #[.int .i64 k,.int .i64 n,.int .i64 k',.int .i64 n'] 48)) (.slice (some ⟨w.heap.size,0,none⟩) 2 2) [(k,n),(k',n')]:=by
 refine .inr ⟨w.heap.size,0,2,rfl,by simp,by simp,by unfold maxLen; omega,fun j x hx=>?_⟩
 rw [blk_cell (alloc_blk w _),Nat.zero_add]
 simpa [tcells] using hx

set_option maxRecDepth 100000 in
set_option maxHeartbeats 1000000 in
/-- append of a list of types that is read, to a row of the call's own -/
theorem append_tyr {w:World}{ops:Array Oper}{rest:List Oper}{o:Oper}{a:Act}{Q:Exit→Act→World→Prop} (hgd:o.guard=none) (s x:Operand)
  (ho:o.op=.call { callee:=.builtin .append,args:=#[s,x],argTypes:=#[46,46] })
  (base:Nat) (v:Value) (xs ys:List (Int × Int)) (va:Option Addr) (vl vc:Nat) (hs:a.eval s=v) (hown:w.ownsRow base 48 2 v xs.length (tcells xs)) (hx:a.eval x=.slice va vl vc) (hy:TyR w (.slice va vl vc) ys)
  (h1:xs.length+ys.length≤100000) (hbase:base≤w.heap.size)
  (h:∀ v' w',w'.ownsRow base 48 2 v' (xs ++ ys).length (tcells (xs ++ ys))→w.grownBy w' v.ownBlock→wpList Tryz.prog ops Q rest (a.put o.dst v') w'):wpList Tryz.prog ops Q (o :: rest) a w:=by
 obtain ⟨i0,hi,hz0,hz1,hz2⟩:=info_parts Tryz.infoType
 rcases hy with ⟨hv,rfl⟩ | ⟨g,of,c,hv,hg,hc,hm,h3⟩
 ·refine wpList_append_own_none hgd s x _ ho base 48 i0 2 Tryz.underlying46 hi v _ _ hs hown (hx.trans hv) ?_
  exact h v w (by simpa using hown) (World.grownBy.refl _ _)
 ·refine wpList_append_own w hgd s x _ ho base 48 i0 _ 2 16 Tryz.underlying46 hi hz0 hz1 hz2 rfl (by omega) v _ _ hs hown ⟨g,of,none⟩ ys.length c (tcells ys) (hx.trans hv) (tcells_len ys) ?_ (tcells_one ys) (by unfold maxLen; omega) (by omega) hbase ?_
  ·intro j u hu
   rw [Addr.add_lit]
   exact h3 j u hu
  ·intro v' w' ho' hg' _
   exact h v' w' (by rw [List.length_append,tcells_app]; exact ho') hg'
end Go.Proofs.YteffpdofcgbokaaGreat
