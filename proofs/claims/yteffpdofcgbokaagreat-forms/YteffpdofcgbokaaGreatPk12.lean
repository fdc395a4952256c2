/-
  The walk over the document's Rule.
-/
import Derived.Test.YteffpdofcgbokaaGreatPk11

namespace Go.Proofs.YteffpdofcgbokaaGreat
open Go.RowKit

/-- the rule: the height too -/
def Ck.rule (st:Int) (y:Option Ck.Fr):Option Ck.Fr:=y.bind fun z=>if (z.stack.length:Int)≤st then some z else none

set_option maxRecDepth 100000 in
set_option maxHeartbeats 40000000 in
/-- P: what moved gives -/
theorem rrule_any (f:RFl) (m:RMV) (p:Nat) (v:FrV) (P:Option Ck.Fr) (w:World)
  (hM:∀ w',Below w.heap.size w w'→Calls Tryz.prog 178 #[f.val,m.val,.int .i64 (p:Int),v.val] w' fun e w''=>∃ u:FrV,e=.returned (.tuple #[u.val,.bool P.isSome])∧(∀ y,P=some y→u.is y w'')∧Below w'.heap.size w' w'') :
  Calls Tryz.prog 127 #[f.val,m.val,.int .i64 (p:Int),v.val] w fun e w' =>
   ∃ u:FrV,e=.returned (.tuple #[u.val,.bool (Ck.rule m.st P).isSome])∧(∀ y,Ck.rule m.st P=some y→u.is y w')∧Below w.heap.size w w':=by
 obtain ⟨fa1,fc1,fa2,fc2,bb,l,ms⟩:=f
 obtain ⟨cl,nm,pa,pl,pc,r1,r2,lo,st,code,ha,hl,hc,ma,ml,mc,mAt,fin⟩:=m
 obtain ⟨la,ln,lc,sa,sn,sc⟩:=v
 simp only [RMV.val,RFl.val,FrV.val] at hM ⊢
 have HM:=hide hM
 clear hM
 have hB0:=below4 w (.cells #[.slice fa1 l.length fc1,.slice fa2 ms.length fc2] 28) (.cells #[.int .i64 cl,.int .i64 nm,.slice pa pl pc,.int .i64 r1,.int .i64 r2,.int .i64 lo,.int .i64 st,.string code,.slice ha hl hc,.slice ma ml mc,.int .i64 mAt,.int .i64 fin] 52) (.cells #[.slice la ln lc,.slice sa sn sc] 75) (.cells #[.slice none 0 0,.slice none 0 0] 75)
 obtain ⟨F0,M0,X0,Z0⟩:=blks4 w (.cells #[.slice fa1 l.length fc1,.slice fa2 ms.length fc2] 28) (.cells #[.int .i64 cl,.int .i64 nm,.slice pa pl pc,.int .i64 r1,.int .i64 r2,.int .i64 lo,.int .i64 st,.string code,.slice ha hl hc,.slice ma ml mc,.int .i64 mAt,.int .i64 fin] 52) (.cells #[.slice la ln lc,.slice sa sn sc] 75) (.cells #[.slice none 0 0,.slice none 0 0] 75)
 cases P with
 | none =>
  go_enter Tryz.func127,Tryz.ntmps127
  go_wp2_with fail
  refine (unhide HM _ hB0).mono ?_
  rintro e w1 ⟨u,rfl,-,hb1⟩
  obtain ⟨ua,un,uc,va,vn,vc⟩:=u
  have hB1:=hB0.trans (hb1.mono hB0.size)
  have hs1:=hB1.size
  have M1:=stay hb1 M0
  have Z1:=stay hb1 Z0
  have z0:=blk_cell Z1 0
  have z1:=blk_cell Z1 1
  have q0:=blk_free Z1 0
  have q1:=blk_free Z1 1
  have m6:=blk_cell M1 6
  have lM:=lt_of_block M1
  have lZ:=lt_of_block Z1
  simp at z0 z1 m6
  clear F0 M0 X0 Z0 hb1 HM
  have YA:=alloc_blk w1 (.cells #[.slice ua un uc,.slice va vn vc] 75)
  have MA:=stay1 M1 (.cells #[.slice ua un uc,.slice va vn vc] 75)
  have y0:(w1.alloc (.cells #[.slice ua un uc,.slice va vn vc] 75)).cell? ⟨w1.heap.size,0,none⟩=some (.slice ua un uc):=(blk_cell YA 0).trans rfl
  have y1:(w1.alloc (.cells #[.slice ua un uc,.slice va vn vc] 75)).cell? ⟨w1.heap.size,1,none⟩=some (.slice va vn vc):=(blk_cell YA 1).trans rfl
  have mm:(w1.alloc (.cells #[.slice ua un uc,.slice va vn vc] 75)).cell? ⟨w.heap.size+1,6,none⟩=some (.int .i64 st):=(blk_cell MA 6).trans rfl
  have hsz:((w1.setCell ⟨w.heap.size+1+1+1,0,none⟩ (.slice ua un uc)).setCell ⟨w.heap.size+1+1+1,1,none⟩ (.slice va vn vc)).heap.size=w1.heap.size:=by simp [World.setCell]
  have YB:=alloc_blk ((w1.setCell ⟨w.heap.size+1+1+1,0,none⟩ (.slice ua un uc)).setCell ⟨w.heap.size+1+1+1,1,none⟩ (.slice va vn vc)) (.cells #[.slice ua un uc,.slice va vn vc] 75)
  rw [hsz] at YB
  have MB:(((w1.setCell ⟨w.heap.size+1+1+1,0,none⟩ (.slice ua un uc)).setCell ⟨w.heap.size+1+1+1,1,none⟩ (.slice va vn vc)).alloc (.cells #[.slice ua un uc,.slice va vn vc] 75)).heap[w.heap.size+1]?=_:=stay1 ((Below.heap_setCell _ _ _ _ (by simp)).trans ((Below.heap_setCell _ _ _ _ (by simp)).trans M1)) (.cells #[.slice ua un uc,.slice va vn vc] 75)
  have y0':(((w1.setCell ⟨w.heap.size+1+1+1,0,none⟩ (.slice ua un uc)).setCell ⟨w.heap.size+1+1+1,1,none⟩ (.slice va vn vc)).alloc (.cells #[.slice ua un uc,.slice va vn vc] 75)).cell? ⟨w1.heap.size,0,none⟩=some (.slice ua un uc):=(blk_cell YB 0).trans rfl
  have y1':(((w1.setCell ⟨w.heap.size+1+1+1,0,none⟩ (.slice ua un uc)).setCell ⟨w.heap.size+1+1+1,1,none⟩ (.slice va vn vc)).alloc (.cells #[.slice ua un uc,.slice va vn vc] 75)).cell? ⟨w1.heap.size,1,none⟩=some (.slice va vn vc):=(blk_cell YB 1).trans rfl
  have mm':(((w1.setCell ⟨w.heap.size+1+1+1,0,none⟩ (.slice ua un uc)).setCell ⟨w.heap.size+1+1+1,1,none⟩ (.slice va vn vc)).alloc (.cells #[.slice ua un uc,.slice va vn vc] 75)).cell? ⟨w.heap.size+1,6,none⟩=some (.int .i64 st):=(blk_cell MB 6).trans rfl
  have hB8:=((hB1.setCell (p:=⟨w.heap.size+1+1+1,0,none⟩) (by simp; omega) (.slice ua un uc)).setCell (p:=⟨w.heap.size+1+1+1,1,none⟩) (by simp; omega) (.slice va vn vc))
  have hB9:=(hB8.alloc (by rw [hsz]; exact hs1) (.cells #[.slice ua un uc,.slice va vn vc] 75)).drew
  clear hsz YB MB
  go_wp2
  refine wp_region_held_drew (S:=(fun w'=>w'.cell? ⟨w1.heap.size,0,none⟩=some (.slice ua un uc)∧w'.cell? ⟨w1.heap.size,1,none⟩=some (.slice va vn vc)∧w'.cell? ⟨w.heap.size+1,6,none⟩=some (.int .i64 st))) (by kernel_rfl) ⟨y0,y1,mm⟩ (fun hHeld=>?_)
  refine wpAnyH_take (i:=0) (oi:=⟨_,_,_,_,_,_⟩) (v:=.agg #[.slice ua un uc,.slice va vn vc]) rfl (by kernel_rfl) (by kernel_rfl) (by kernel_rfl) (fun _ _ _ h=>h) (Or.inl ⟨by rfl,?_⟩) hHeld ?_
  ·intro w' hSw
   try dsimp only at hSw
   go_simp
  try simp only [Act.put,List.setIfInBounds_toArray,List.set_cons_zero,List.set_cons_succ]
  refine wpAnyH_take (i:=1) (oi:=⟨_,_,_,_,_,_⟩) (v:=.bool false) rfl (by kernel_rfl) (by kernel_rfl) (by kernel_rfl) (fun _ _ _ h=>h) (Or.inl ⟨by rfl,?_⟩) hHeld ?_
  ·intro w' hSw
   try dsimp only at hSw
   go_simp
  try simp only [Act.put,List.setIfInBounds_toArray,List.set_cons_zero,List.set_cons_succ]
  refine wpAnyH_take (i:=2) (oi:=⟨_,_,_,_,_,_⟩) (v:=.bool false) rfl (by kernel_rfl) (by kernel_rfl) (by kernel_rfl) (fun _ _ _ h=>h) (Or.inl ⟨by rfl,?_⟩) hHeld ?_
  ·intro w' hSw
   try dsimp only at hSw
   go_simp
  try simp only [Act.put,List.setIfInBounds_toArray,List.set_cons_zero,List.set_cons_succ]
  refine wpAnyH_take (i:=3) (oi:=⟨_,_,_,_,_,_⟩) (v:=undef) rfl (by kernel_rfl) (by kernel_rfl) (by kernel_rfl) (fun _ _ _ h=>h) (Or.inr ⟨by rfl,rfl⟩) hHeld ?_
  try simp only [Act.put,List.setIfInBounds_toArray,List.set_cons_zero,List.set_cons_succ]
  refine wpAnyH_take (i:=4) (oi:=⟨_,_,_,_,_,_⟩) (v:=undef) rfl (by kernel_rfl) (by kernel_rfl) (by kernel_rfl) (fun _ _ _ h=>h) (Or.inr ⟨by rfl,rfl⟩) hHeld ?_
  try simp only [Act.put,List.setIfInBounds_toArray,List.set_cons_zero,List.set_cons_succ]
  refine wpAnyH_take (i:=5) (oi:=⟨_,_,_,_,_,_⟩) (v:=undef) rfl (by kernel_rfl) (by kernel_rfl) (by kernel_rfl) (fun _ _ _ h=>h) (Or.inr ⟨by rfl,rfl⟩) hHeld ?_
  try simp only [Act.put,List.setIfInBounds_toArray,List.set_cons_zero,List.set_cons_succ]
  refine wpAnyH_take (i:=6) (oi:=⟨_,_,_,_,_,_⟩) (v:=undef) rfl (by kernel_rfl) (by kernel_rfl) (by kernel_rfl) (fun _ _ _ h=>h) (Or.inr ⟨by rfl,rfl⟩) hHeld ?_
  try simp only [Act.put,List.setIfInBounds_toArray,List.set_cons_zero,List.set_cons_succ]
  refine wpAnyH_take (i:=7) (oi:=⟨_,_,_,_,_,_⟩) (v:=undef) rfl (by kernel_rfl) (by kernel_rfl) (by kernel_rfl) (fun _ _ _ h=>h) (Or.inr ⟨by rfl,rfl⟩) hHeld ?_
  try simp only [Act.put,List.setIfInBounds_toArray,List.set_cons_zero,List.set_cons_succ]
  refine wpAnyH_take (i:=8) (oi:=⟨_,_,_,_,_,_⟩) (v:=undef) rfl (by kernel_rfl) (by kernel_rfl) (by kernel_rfl) (fun _ _ _ h=>h) (Or.inr ⟨by rfl,rfl⟩) hHeld ?_
  try simp only [Act.put,List.setIfInBounds_toArray,List.set_cons_zero,List.set_cons_succ]
  refine wpAnyH_take (i:=9) (oi:=⟨_,_,_,_,_,_⟩) (v:=.bool false) rfl (by kernel_rfl) (by kernel_rfl) (by kernel_rfl) (fun _ _ _ h=>h) (Or.inl ⟨by rfl,?_⟩) hHeld ?_
  ·intro w' hSw
   try dsimp only at hSw
   go_simp
  try simp only [Act.put,List.setIfInBounds_toArray,List.set_cons_zero,List.set_cons_succ]
  refine wpAnyH_ready (rs:=[10]) (by kernel_rfl) (by simp) ?_
  refine AllReadyH.cons (o:=⟨_,_,_,_,_,_⟩) rfl (fun K hK=>?_) AllReadyH.nil
  go_simp
  clear hHeld
  refine hK.out _ _ ⟨y0',y1',mm'⟩ (fun hHeld=>?_)
  clear hK K
  try simp only [Act.put,List.setIfInBounds_toArray,List.set_cons_zero,List.set_cons_succ]
  refine wpAnyH_take (i:=11) (oi:=⟨_,_,_,_,_,_⟩) (v:=.bool false) rfl (by kernel_rfl) (by kernel_rfl) (by kernel_rfl) (fun _ _ _ h=>h) (Or.inl ⟨by rfl,?_⟩) hHeld ?_
  ·intro w' hSw
   try dsimp only at hSw
   go_simp
  try simp only [Act.put,List.setIfInBounds_toArray,List.set_cons_zero,List.set_cons_succ]
  refine wpAnyH_done (by kernel_rfl) ?_ _
  go_wp2_with fail
  refine bodyPost_ret (v:=.tuple #[.agg #[.slice ua un uc,.slice va vn vc],.bool false]) (by simp [results,Tryz.results127,go_sem,z0,z1,lZ]) rfl ?_
  exact ⟨⟨ua,un,uc,va,vn,vc⟩,rfl,fun y hy=>by simp [Ck.rule] at hy,hB9⟩
 | some y =>
  by_cases hle:(y.stack.length:Int)≤st
  ·have HE:Hid (Ck.rule st (some y)=some y):=if_pos hle
   go_enter Tryz.func127,Tryz.ntmps127
   go_wp2_with fail
   refine (unhide HM _ hB0).mono ?_
   rintro e w1 ⟨u,rfl,hu,hb1⟩
   obtain ⟨ua,un,uc,va,vn,vc⟩:=u
   have hB1:=hB0.trans (hb1.mono hB0.size)
   have hs1:=hB1.size
   have M1:=stay hb1 M0
   have Z1:=stay hb1 Z0
   have z0:=blk_cell Z1 0
   have z1:=blk_cell Z1 1
   have q0:=blk_free Z1 0
   have q1:=blk_free Z1 1
   have m6:=blk_cell M1 6
   have lM:=lt_of_block M1
   have lZ:=lt_of_block Z1
   simp at z0 z1 m6
   clear F0 M0 X0 Z0 hb1 HM
   have hy:=hu y rfl
   obtain ⟨hvn,-,-⟩:=hy.st.cap
   simp only at hvn
   subst hvn
   have YA:=alloc_blk w1 (.cells #[.slice ua un uc,.slice va y.stack.length vc] 75)
   have MA:=stay1 M1 (.cells #[.slice ua un uc,.slice va y.stack.length vc] 75)
   have y0:(w1.alloc (.cells #[.slice ua un uc,.slice va y.stack.length vc] 75)).cell? ⟨w1.heap.size,0,none⟩=some (.slice ua un uc):=(blk_cell YA 0).trans rfl
   have y1:(w1.alloc (.cells #[.slice ua un uc,.slice va y.stack.length vc] 75)).cell? ⟨w1.heap.size,1,none⟩=some (.slice va y.stack.length vc):=(blk_cell YA 1).trans rfl
   have mm:(w1.alloc (.cells #[.slice ua un uc,.slice va y.stack.length vc] 75)).cell? ⟨w.heap.size+1,6,none⟩=some (.int .i64 st):=(blk_cell MA 6).trans rfl
   have hsz:((w1.setCell ⟨w.heap.size+1+1+1,0,none⟩ (.slice ua un uc)).setCell ⟨w.heap.size+1+1+1,1,none⟩ (.slice va y.stack.length vc)).heap.size=w1.heap.size:=by simp [World.setCell]
   have YB:=alloc_blk ((w1.setCell ⟨w.heap.size+1+1+1,0,none⟩ (.slice ua un uc)).setCell ⟨w.heap.size+1+1+1,1,none⟩ (.slice va y.stack.length vc)) (.cells #[.slice ua un uc,.slice va y.stack.length vc] 75)
   rw [hsz] at YB
   have MB:(((w1.setCell ⟨w.heap.size+1+1+1,0,none⟩ (.slice ua un uc)).setCell ⟨w.heap.size+1+1+1,1,none⟩ (.slice va y.stack.length vc)).alloc (.cells #[.slice ua un uc,.slice va y.stack.length vc] 75)).heap[w.heap.size+1]?=_:=stay1 ((Below.heap_setCell _ _ _ _ (by simp)).trans ((Below.heap_setCell _ _ _ _ (by simp)).trans M1)) (.cells #[.slice ua un uc,.slice va y.stack.length vc] 75)
   have y0':(((w1.setCell ⟨w.heap.size+1+1+1,0,none⟩ (.slice ua un uc)).setCell ⟨w.heap.size+1+1+1,1,none⟩ (.slice va y.stack.length vc)).alloc (.cells #[.slice ua un uc,.slice va y.stack.length vc] 75)).cell? ⟨w1.heap.size,0,none⟩=some (.slice ua un uc):=(blk_cell YB 0).trans rfl
   have y1':(((w1.setCell ⟨w.heap.size+1+1+1,0,none⟩ (.slice ua un uc)).setCell ⟨w.heap.size+1+1+1,1,none⟩ (.slice va y.stack.length vc)).alloc (.cells #[.slice ua un uc,.slice va y.stack.length vc] 75)).cell? ⟨w1.heap.size,1,none⟩=some (.slice va y.stack.length vc):=(blk_cell YB 1).trans rfl
   have mm':(((w1.setCell ⟨w.heap.size+1+1+1,0,none⟩ (.slice ua un uc)).setCell ⟨w.heap.size+1+1+1,1,none⟩ (.slice va y.stack.length vc)).alloc (.cells #[.slice ua un uc,.slice va y.stack.length vc] 75)).cell? ⟨w.heap.size+1,6,none⟩=some (.int .i64 st):=(blk_cell MB 6).trans rfl
   have hB8:=((hB1.setCell (p:=⟨w.heap.size+1+1+1,0,none⟩) (by simp; omega) (.slice ua un uc)).setCell (p:=⟨w.heap.size+1+1+1,1,none⟩) (by simp; omega) (.slice va y.stack.length vc))
   have hB9:=(hB8.alloc (by rw [hsz]; exact hs1) (.cells #[.slice ua un uc,.slice va y.stack.length vc] 75)).drew
   clear hsz YB MB
   go_wp2
   refine wp_region_held_drew (S:=(fun w'=>w'.cell? ⟨w1.heap.size,0,none⟩=some (.slice ua un uc)∧w'.cell? ⟨w1.heap.size,1,none⟩=some (.slice va y.stack.length vc)∧w'.cell? ⟨w.heap.size+1,6,none⟩=some (.int .i64 st))) (by kernel_rfl) ⟨y0,y1,mm⟩ (fun hHeld=>?_)
   refine wpAnyH_take (i:=0) (oi:=⟨_,_,_,_,_,_⟩) (v:=.agg #[.slice ua un uc,.slice va y.stack.length vc]) rfl (by kernel_rfl) (by kernel_rfl) (by kernel_rfl) (fun _ _ _ h=>h) (Or.inl ⟨by rfl,?_⟩) hHeld ?_
   ·intro w' hSw
    try dsimp only at hSw
    go_simp
   try simp only [Act.put,List.setIfInBounds_toArray,List.set_cons_zero,List.set_cons_succ]
   refine wpAnyH_take (i:=1) (oi:=⟨_,_,_,_,_,_⟩) (v:=.bool true) rfl (by kernel_rfl) (by kernel_rfl) (by kernel_rfl) (fun _ _ _ h=>h) (Or.inl ⟨by rfl,?_⟩) hHeld ?_
   ·intro w' hSw
    try dsimp only at hSw
    go_simp
   try simp only [Act.put,List.setIfInBounds_toArray,List.set_cons_zero,List.set_cons_succ]
   refine wpAnyH_take (i:=2) (oi:=⟨_,_,_,_,_,_⟩) (v:=.bool true) rfl (by kernel_rfl) (by kernel_rfl) (by kernel_rfl) (fun _ _ _ h=>h) (Or.inl ⟨by rfl,?_⟩) hHeld ?_
   ·intro w' hSw
    try dsimp only at hSw
    go_simp
   try simp only [Act.put,List.setIfInBounds_toArray,List.set_cons_zero,List.set_cons_succ]
   refine wpAnyH_take (i:=3) (oi:=⟨_,_,_,_,_,_⟩) (v:=.pointer (some ⟨w1.heap.size,1,none⟩)) rfl (by kernel_rfl) (by kernel_rfl) (by kernel_rfl) (fun _ _ _ h=>h) (Or.inl ⟨by rfl,?_⟩) hHeld ?_
   ·intro w' hSw
    try dsimp only at hSw
    go_simp
   try simp only [Act.put,List.setIfInBounds_toArray,List.set_cons_zero,List.set_cons_succ]
   refine wpAnyH_take (i:=4) (oi:=⟨_,_,_,_,_,_⟩) (v:=.slice va y.stack.length vc) rfl (by kernel_rfl) (by kernel_rfl) (by kernel_rfl) (fun _ _ _ h=>h) (Or.inl ⟨by rfl,?_⟩) hHeld ?_
   ·intro w' hSw
    try dsimp only at hSw
    go_simp
   try simp only [Act.put,List.setIfInBounds_toArray,List.set_cons_zero,List.set_cons_succ]
   refine wpAnyH_take (i:=5) (oi:=⟨_,_,_,_,_,_⟩) (v:=.int .i64 (y.stack.length:Int)) rfl (by kernel_rfl) (by kernel_rfl) (by kernel_rfl) (fun _ _ _ h=>h) (Or.inl ⟨by rfl,?_⟩) hHeld ?_
   ·intro w' hSw
    try dsimp only at hSw
    go_simp
   try simp only [Act.put,List.setIfInBounds_toArray,List.set_cons_zero,List.set_cons_succ]
   refine wpAnyH_take (i:=6) (oi:=⟨_,_,_,_,_,_⟩) (v:=.pointer (some ⟨w.heap.size+1,6,none⟩)) rfl (by kernel_rfl) (by kernel_rfl) (by kernel_rfl) (fun _ _ _ h=>h) (Or.inl ⟨by rfl,?_⟩) hHeld ?_
   ·intro w' hSw
    try dsimp only at hSw
    go_simp
   try simp only [Act.put,List.setIfInBounds_toArray,List.set_cons_zero,List.set_cons_succ]
   refine wpAnyH_take (i:=7) (oi:=⟨_,_,_,_,_,_⟩) (v:=.int .i64 st) rfl (by kernel_rfl) (by kernel_rfl) (by kernel_rfl) (fun _ _ _ h=>h) (Or.inl ⟨by rfl,?_⟩) hHeld ?_
   ·intro w' hSw
    try dsimp only at hSw
    go_simp
   try simp only [Act.put,List.setIfInBounds_toArray,List.set_cons_zero,List.set_cons_succ]
   refine wpAnyH_take (i:=8) (oi:=⟨_,_,_,_,_,_⟩) (v:=.bool true) rfl (by kernel_rfl) (by kernel_rfl) (by kernel_rfl) (fun _ _ _ h=>h) (Or.inl ⟨by rfl,?_⟩) hHeld ?_
   ·intro w' hSw
    try dsimp only at hSw
    go_simp
   try simp only [Act.put,List.setIfInBounds_toArray,List.set_cons_zero,List.set_cons_succ]
   refine wpAnyH_take (i:=9) (oi:=⟨_,_,_,_,_,_⟩) (v:=.bool true) rfl (by kernel_rfl) (by kernel_rfl) (by kernel_rfl) (fun _ _ _ h=>h) (Or.inl ⟨by rfl,?_⟩) hHeld ?_
   ·intro w' hSw
    try dsimp only at hSw
    go_simp
   try simp only [Act.put,List.setIfInBounds_toArray,List.set_cons_zero,List.set_cons_succ]
   refine wpAnyH_ready (rs:=[10]) (by kernel_rfl) (by simp) ?_
   refine AllReadyH.cons (o:=⟨_,_,_,_,_,_⟩) rfl (fun K hK=>?_) AllReadyH.nil
   go_simp
   clear hHeld
   refine hK.out _ _ ⟨y0',y1',mm'⟩ (fun hHeld=>?_)
   clear hK K
   try simp only [Act.put,List.setIfInBounds_toArray,List.set_cons_zero,List.set_cons_succ]
   refine wpAnyH_take (i:=11) (oi:=⟨_,_,_,_,_,_⟩) (v:=.bool true) rfl (by kernel_rfl) (by kernel_rfl) (by kernel_rfl) (fun _ _ _ h=>h) (Or.inl ⟨by rfl,?_⟩) hHeld ?_
   ·intro w' hSw
    try dsimp only at hSw
    go_simp
   try simp only [Act.put,List.setIfInBounds_toArray,List.set_cons_zero,List.set_cons_succ]
   refine wpAnyH_done (by kernel_rfl) ?_ _
   go_wp2_with fail
   refine bodyPost_ret (v:=.tuple #[.agg #[.slice ua un uc,.slice va y.stack.length vc],.bool true]) (by simp [results,Tryz.results127,go_sem,z0,z1,lZ]) rfl ?_
   rw [unhide HE]
   refine ⟨⟨ua,un,uc,va,y.stack.length,vc⟩,rfl,fun z hz=>?_,hB9⟩
   simp only [Option.some.injEq] at hz
   subst hz
   have hb:Below _ _ _:=((Below.refl ((w1.setCell ⟨w.heap.size+1+1+1,0,none⟩ (.slice ua un uc)).setCell ⟨w.heap.size+1+1+1,1,none⟩ (.slice va y.stack.length vc)).heap.size ((w1.setCell ⟨w.heap.size+1+1+1,0,none⟩ (.slice ua un uc)).setCell ⟨w.heap.size+1+1+1,1,none⟩ (.slice va y.stack.length vc))).alloc (Nat.le_refl _) (.cells #[.slice ua un uc,.slice va y.stack.length vc] 75)).drew
   exact ⟨(hy.lo.set_frame Z1 _ _).below hb,(hy.st.set_frame Z1 _ _).below hb,hy.hl,hy.hs⟩
  ·have HE:Hid (Ck.rule st (some y)=none):=if_neg hle
   have hle':st < (y.stack.length:Int):=by omega
   go_enter Tryz.func127,Tryz.ntmps127
   go_wp2_with fail
   refine (unhide HM _ hB0).mono ?_
   rintro e w1 ⟨u,rfl,hu,hb1⟩
   obtain ⟨ua,un,uc,va,vn,vc⟩:=u
   have hB1:=hB0.trans (hb1.mono hB0.size)
   have hs1:=hB1.size
   have M1:=stay hb1 M0
   have Z1:=stay hb1 Z0
   have z0:=blk_cell Z1 0
   have z1:=blk_cell Z1 1
   have q0:=blk_free Z1 0
   have q1:=blk_free Z1 1
   have m6:=blk_cell M1 6
   have lM:=lt_of_block M1
   have lZ:=lt_of_block Z1
   simp at z0 z1 m6
   clear F0 M0 X0 Z0 hb1 HM
   have hy:=hu y rfl
   obtain ⟨hvn,-,-⟩:=hy.st.cap
   simp only at hvn
   subst hvn
   have YA:=alloc_blk w1 (.cells #[.slice ua un uc,.slice va y.stack.length vc] 75)
   have MA:=stay1 M1 (.cells #[.slice ua un uc,.slice va y.stack.length vc] 75)
   have y0:(w1.alloc (.cells #[.slice ua un uc,.slice va y.stack.length vc] 75)).cell? ⟨w1.heap.size,0,none⟩=some (.slice ua un uc):=(blk_cell YA 0).trans rfl
   have y1:(w1.alloc (.cells #[.slice ua un uc,.slice va y.stack.length vc] 75)).cell? ⟨w1.heap.size,1,none⟩=some (.slice va y.stack.length vc):=(blk_cell YA 1).trans rfl
   have mm:(w1.alloc (.cells #[.slice ua un uc,.slice va y.stack.length vc] 75)).cell? ⟨w.heap.size+1,6,none⟩=some (.int .i64 st):=(blk_cell MA 6).trans rfl
   have hsz:((w1.setCell ⟨w.heap.size+1+1+1,0,none⟩ (.slice ua un uc)).setCell ⟨w.heap.size+1+1+1,1,none⟩ (.slice va y.stack.length vc)).heap.size=w1.heap.size:=by simp [World.setCell]
   have YB:=alloc_blk ((w1.setCell ⟨w.heap.size+1+1+1,0,none⟩ (.slice ua un uc)).setCell ⟨w.heap.size+1+1+1,1,none⟩ (.slice va y.stack.length vc)) (.cells #[.slice ua un uc,.slice va y.stack.length vc] 75)
   rw [hsz] at YB
   have MB:(((w1.setCell ⟨w.heap.size+1+1+1,0,none⟩ (.slice ua un uc)).setCell ⟨w.heap.size+1+1+1,1,none⟩ (.slice va y.stack.length vc)).alloc (.cells #[.slice ua un uc,.slice va y.stack.length vc] 75)).heap[w.heap.size+1]?=_:=stay1 ((Below.heap_setCell _ _ _ _ (by simp)).trans ((Below.heap_setCell _ _ _ _ (by simp)).trans M1)) (.cells #[.slice ua un uc,.slice va y.stack.length vc] 75)
   have y0':(((w1.setCell ⟨w.heap.size+1+1+1,0,none⟩ (.slice ua un uc)).setCell ⟨w.heap.size+1+1+1,1,none⟩ (.slice va y.stack.length vc)).alloc (.cells #[.slice ua un uc,.slice va y.stack.length vc] 75)).cell? ⟨w1.heap.size,0,none⟩=some (.slice ua un uc):=(blk_cell YB 0).trans rfl
   have y1':(((w1.setCell ⟨w.heap.size+1+1+1,0,none⟩ (.slice ua un uc)).setCell ⟨w.heap.size+1+1+1,1,none⟩ (.slice va y.stack.length vc)).alloc (.cells #[.slice ua un uc,.slice va y.stack.length vc] 75)).cell? ⟨w1.heap.size,1,none⟩=some (.slice va y.stack.length vc):=(blk_cell YB 1).trans rfl
   have mm':(((w1.setCell ⟨w.heap.size+1+1+1,0,none⟩ (.slice ua un uc)).setCell ⟨w.heap.size+1+1+1,1,none⟩ (.slice va y.stack.length vc)).alloc (.cells #[.slice ua un uc,.slice va y.stack.length vc] 75)).cell? ⟨w.heap.size+1,6,none⟩=some (.int .i64 st):=(blk_cell MB 6).trans rfl
   have hB8:=((hB1.setCell (p:=⟨w.heap.size+1+1+1,0,none⟩) (by simp; omega) (.slice ua un uc)).setCell (p:=⟨w.heap.size+1+1+1,1,none⟩) (by simp; omega) (.slice va y.stack.length vc))
   have hB9:=(hB8.alloc (by rw [hsz]; exact hs1) (.cells #[.slice ua un uc,.slice va y.stack.length vc] 75)).drew
   clear hsz YB MB
   go_wp2
   refine wp_region_held_drew (S:=(fun w'=>w'.cell? ⟨w1.heap.size,0,none⟩=some (.slice ua un uc)∧w'.cell? ⟨w1.heap.size,1,none⟩=some (.slice va y.stack.length vc)∧w'.cell? ⟨w.heap.size+1,6,none⟩=some (.int .i64 st))) (by kernel_rfl) ⟨y0,y1,mm⟩ (fun hHeld=>?_)
   refine wpAnyH_take (i:=0) (oi:=⟨_,_,_,_,_,_⟩) (v:=.agg #[.slice ua un uc,.slice va y.stack.length vc]) rfl (by kernel_rfl) (by kernel_rfl) (by kernel_rfl) (fun _ _ _ h=>h) (Or.inl ⟨by rfl,?_⟩) hHeld ?_
   ·intro w' hSw
    try dsimp only at hSw
    go_simp
   try simp only [Act.put,List.setIfInBounds_toArray,List.set_cons_zero,List.set_cons_succ]
   refine wpAnyH_take (i:=1) (oi:=⟨_,_,_,_,_,_⟩) (v:=.bool true) rfl (by kernel_rfl) (by kernel_rfl) (by kernel_rfl) (fun _ _ _ h=>h) (Or.inl ⟨by rfl,?_⟩) hHeld ?_
   ·intro w' hSw
    try dsimp only at hSw
    go_simp
   try simp only [Act.put,List.setIfInBounds_toArray,List.set_cons_zero,List.set_cons_succ]
   refine wpAnyH_take (i:=2) (oi:=⟨_,_,_,_,_,_⟩) (v:=.bool true) rfl (by kernel_rfl) (by kernel_rfl) (by kernel_rfl) (fun _ _ _ h=>h) (Or.inl ⟨by rfl,?_⟩) hHeld ?_
   ·intro w' hSw
    try dsimp only at hSw
    go_simp
   try simp only [Act.put,List.setIfInBounds_toArray,List.set_cons_zero,List.set_cons_succ]
   refine wpAnyH_take (i:=3) (oi:=⟨_,_,_,_,_,_⟩) (v:=.pointer (some ⟨w1.heap.size,1,none⟩)) rfl (by kernel_rfl) (by kernel_rfl) (by kernel_rfl) (fun _ _ _ h=>h) (Or.inl ⟨by rfl,?_⟩) hHeld ?_
   ·intro w' hSw
    try dsimp only at hSw
    go_simp
   try simp only [Act.put,List.setIfInBounds_toArray,List.set_cons_zero,List.set_cons_succ]
   refine wpAnyH_take (i:=4) (oi:=⟨_,_,_,_,_,_⟩) (v:=.slice va y.stack.length vc) rfl (by kernel_rfl) (by kernel_rfl) (by kernel_rfl) (fun _ _ _ h=>h) (Or.inl ⟨by rfl,?_⟩) hHeld ?_
   ·intro w' hSw
    try dsimp only at hSw
    go_simp
   try simp only [Act.put,List.setIfInBounds_toArray,List.set_cons_zero,List.set_cons_succ]
   refine wpAnyH_take (i:=5) (oi:=⟨_,_,_,_,_,_⟩) (v:=.int .i64 (y.stack.length:Int)) rfl (by kernel_rfl) (by kernel_rfl) (by kernel_rfl) (fun _ _ _ h=>h) (Or.inl ⟨by rfl,?_⟩) hHeld ?_
   ·intro w' hSw
    try dsimp only at hSw
    go_simp
   try simp only [Act.put,List.setIfInBounds_toArray,List.set_cons_zero,List.set_cons_succ]
   refine wpAnyH_take (i:=6) (oi:=⟨_,_,_,_,_,_⟩) (v:=.pointer (some ⟨w.heap.size+1,6,none⟩)) rfl (by kernel_rfl) (by kernel_rfl) (by kernel_rfl) (fun _ _ _ h=>h) (Or.inl ⟨by rfl,?_⟩) hHeld ?_
   ·intro w' hSw
    try dsimp only at hSw
    go_simp
   try simp only [Act.put,List.setIfInBounds_toArray,List.set_cons_zero,List.set_cons_succ]
   refine wpAnyH_take (i:=7) (oi:=⟨_,_,_,_,_,_⟩) (v:=.int .i64 st) rfl (by kernel_rfl) (by kernel_rfl) (by kernel_rfl) (fun _ _ _ h=>h) (Or.inl ⟨by rfl,?_⟩) hHeld ?_
   ·intro w' hSw
    try dsimp only at hSw
    go_simp
   try simp only [Act.put,List.setIfInBounds_toArray,List.set_cons_zero,List.set_cons_succ]
   refine wpAnyH_take (i:=8) (oi:=⟨_,_,_,_,_,_⟩) (v:=.bool false) rfl (by kernel_rfl) (by kernel_rfl) (by kernel_rfl) (fun _ _ _ h=>h) (Or.inl ⟨by rfl,?_⟩) hHeld ?_
   ·intro w' hSw
    try dsimp only at hSw
    go_simp
   try simp only [Act.put,List.setIfInBounds_toArray,List.set_cons_zero,List.set_cons_succ]
   refine wpAnyH_take (i:=9) (oi:=⟨_,_,_,_,_,_⟩) (v:=.bool false) rfl (by kernel_rfl) (by kernel_rfl) (by kernel_rfl) (fun _ _ _ h=>h) (Or.inl ⟨by rfl,?_⟩) hHeld ?_
   ·intro w' hSw
    try dsimp only at hSw
    go_simp
   try simp only [Act.put,List.setIfInBounds_toArray,List.set_cons_zero,List.set_cons_succ]
   refine wpAnyH_ready (rs:=[10]) (by kernel_rfl) (by simp) ?_
   refine AllReadyH.cons (o:=⟨_,_,_,_,_,_⟩) rfl (fun K hK=>?_) AllReadyH.nil
   go_simp
   clear hHeld
   refine hK.out _ _ ⟨y0',y1',mm'⟩ (fun hHeld=>?_)
   clear hK K
   try simp only [Act.put,List.setIfInBounds_toArray,List.set_cons_zero,List.set_cons_succ]
   refine wpAnyH_take (i:=11) (oi:=⟨_,_,_,_,_,_⟩) (v:=.bool false) rfl (by kernel_rfl) (by kernel_rfl) (by kernel_rfl) (fun _ _ _ h=>h) (Or.inl ⟨by rfl,?_⟩) hHeld ?_
   ·intro w' hSw
    try dsimp only at hSw
    go_simp
   try simp only [Act.put,List.setIfInBounds_toArray,List.set_cons_zero,List.set_cons_succ]
   refine wpAnyH_done (by kernel_rfl) ?_ _
   go_wp2_with fail
   refine bodyPost_ret (v:=.tuple #[.agg #[.slice ua un uc,.slice va y.stack.length vc],.bool false]) (by simp [results,Tryz.results127,go_sem,z0,z1,lZ]) rfl ?_
   rw [unhide HE]
   exact ⟨⟨ua,un,uc,va,y.stack.length,vc⟩,rfl,fun z hz=>by simp at hz,hB9⟩
end Go.Proofs.YteffpdofcgbokaaGreat

/-
  The walk over the document's handlers.
-/
namespace Go.Proofs.YteffpdofcgbokaaGreat
open Go.RowKit

/-- what the handlers around place p say -/
def Ck.handlers (T:List Int) (mp:Int→Option Ck.Fr) (p:Int) (lo:List (Int × Int)):List Rd.Hnd→Int
 | []=>0
 | h :: r=>if p < h.frm then Ck.handlers T mp p lo r else if h.til≤p then Ck.handlers T mp p lo r
  else if (mp h.target).isSome=false then 8 else if Ck.frameFits T ⟨lo,[(3,h.cl)]⟩ (Ck.orNone (mp h.target))=false then 9 else Ck.handlers T mp p lo r

set_option maxRecDepth 100000 in
set_option maxHeartbeats 40000000 in
theorem rhandlers_any (f:RFv) (T:List Int) (m:RMV) (hs:List Rd.Hnd) (bb:Nat) (mp:Int→Option Ck.Fr) (p:Int) (v:FrV) (x:Ck.Fr) (w:World) (hF:f.fitsAs T w) (hhl:m.hl=hs.length) (hh4:hs.length≤1000) (hhs:RHndsAt w bb (.slice m.ha m.hl m.hc) hs)
  (hMp:∀ q w',Below w.heap.size w w'→Calls Tryz.prog 83 #[m.val,.int .i64 q] w' fun e w''=>∃ u:FrV,e=.returned (.tuple #[u.val,.bool (mp q).isSome])∧u.is (Ck.orNone (mp q)) w''∧Below w'.heap.size w' w'') (hv:v.is x w) :
  Calls Tryz.prog 129 #[f.val,m.val,.int .i64 p,v.val] w fun e w'=>e=.returned (.int .i64 (Ck.handlers T mp p x.locals hs))∧Below w.heap.size w w':=by
 have hFF:=fun (u u':FrV) (y y':Ck.Fr) w' (h:Below w.heap.size w w') hu hu'=>rframeFits_any f T u u' y y' w' (hF.below h) hu hu'
 have hvl:=hv.lo
 have hvh:=hv.hl
 generalize hr:Ck.handlers T mp p x.locals hs=R
 have HR:Hid (Ck.handlers T mp p x.locals (hs.drop 0)=R):=hr
 have HHS:Hid (∀ w',Below w.heap.size w w'→RHndsAt w' bb (.slice m.ha m.hl m.hc) hs):=fun w' h=>hhs.kp (Kp.of_below (e:=none) h) (by decide)
 obtain ⟨fa1,fl,fc1,fa2,fm,fc2⟩:=f
 obtain ⟨cl,nm,pa,pl,pc,r1,r2,lo,st,code,ha,hl,hc,ma,ml,mc,mAt,fin⟩:=m
 obtain ⟨la,ln,lc,sa,sn,sc⟩:=v
 simp only at hhl
 subst hhl
 simp only [RMV.val,RFv.val,FrV.val] at hMp hFF hvl ⊢
 unfold Hid at HHS
 simp only at HHS
 have HHS':=hide HHS
 have HMP:=hide hMp
 have HFF:=hide hFF
 clear hr hF hhs hMp hFF hv HHS
 have hB0:=below3 w (.cells #[.slice fa1 fl fc1,.slice fa2 fm fc2] 28) (.cells #[.int .i64 cl,.int .i64 nm,.slice pa pl pc,.int .i64 r1,.int .i64 r2,.int .i64 lo,.int .i64 st,.string code,.slice ha hs.length hc,.slice ma ml mc,.int .i64 mAt,.int .i64 fin] 52) (.cells #[.slice la ln lc,.slice sa sn sc] 75)
 have C0:=blks3 w (.cells #[.slice fa1 fl fc1,.slice fa2 fm fc2] 28) (.cells #[.int .i64 cl,.int .i64 nm,.slice pa pl pc,.int .i64 r1,.int .i64 r2,.int .i64 lo,.int .i64 st,.string code,.slice ha hs.length hc,.slice ma ml mc,.int .i64 mAt,.int .i64 fin] 52) (.cells #[.slice la ln lc,.slice sa sn sc] 75)
 go_enter Tryz.func129,Tryz.ntmps129
 go_wp2
 go_loopw [9] (fun i wr=>∃ q:Nat,q≤hs.length∧i=.int .i64 (q:Int)∧Hid (Ck.handlers T mp p x.locals (hs.drop q)=R)∧Below w.heap.size w wr∧wr.heap[w.heap.size]?=some (.cells #[.slice fa1 fl fc1,.slice fa2 fm fc2] 28 (0,0))∧wr.heap[w.heap.size+1]?=some (.cells #[.int .i64 cl,.int .i64 nm,.slice pa pl pc,.int .i64 r1,.int .i64 r2,.int .i64 lo,.int .i64 st,.string code,.slice ha hs.length hc,.slice ma ml mc,.int .i64 mAt,.int .i64 fin] 52 (0,0))∧wr.heap[w.heap.size+1+1]?=some (.cells #[.slice la ln lc,.slice sa sn sc] 75 (0,0)))
  (fun i _=>hs.length - (intOf i).toNat)
 case atStart=>exact ⟨0,by omega,rfl,HR,hB0,C0.1,C0.2.1,C0.2.2⟩
 case round =>
  clear HR hB0 C0
  obtain ⟨q,hq,rfl,HR,hB,CF,CM,CX⟩:=hrel
  have hBs:=hB.size
  have lF:=lt_of_block CF
  have lM:=lt_of_block CM
  have lX:=lt_of_block CX
  have m0:=blk_cell CM 0
  have m1:=blk_cell CM 1
  have m2:=blk_cell CM 2
  have m3:=blk_cell CM 3
  have m4:=blk_cell CM 4
  have m5:=blk_cell CM 5
  have m6:=blk_cell CM 6
  have m7:=blk_cell CM 7
  have m8:=blk_cell CM 8
  have m9:=blk_cell CM 9
  have m10:=blk_cell CM 10
  have m11:=blk_cell CM 11
  simp at m0 m1 m2 m3 m4 m5 m6 m7 m8 m9 m10 m11
  by_cases hkn:q < hs.length
  ·obtain ⟨g,hg,hglt,_,hcell⟩:=own_some (unhide HHS' _ hB) (by omega)
   have y0:=(hcell _ (hcells_at hs q hkn 0 (by omega)).2).trans (hcells_at hs q hkn 0 (by omega)).1
   have y1:=(hcell _ (hcells_at hs q hkn 1 (by omega)).2).trans (hcells_at hs q hkn 1 (by omega)).1
   have y2:=(hcell _ (hcells_at hs q hkn 2 (by omega)).2).trans (hcells_at hs q hkn 2 (by omega)).1
   have y3:=(hcell _ (hcells_at hs q hkn 3 (by omega)).2).trans (hcells_at hs q hkn 3 (by omega)).1
   have hd:hs.drop q=hs[q] :: hs.drop (q+1):=List.drop_eq_getElem_cons hkn
   have hr:=unhide HR
   rw [hd,Ck.handlers] at hr
   generalize hs[q]=t at *
   obtain ⟨h1,h2,h3,h4⟩:=t
   simp at y0 y1 y2 y3
   simp only at hr
   have kb:(q:Int) < (hs.length:Int):=by omega
   have hB1:=hB.alloc hBs (.cells #[.int .i64 h1,.int .i64 h2,.int .i64 h3,.int .i64 h4] 73)
   have CF1:=stay1 CF (.cells #[.int .i64 h1,.int .i64 h2,.int .i64 h3,.int .i64 h4] 73)
   have CM1:=stay1 CM (.cells #[.int .i64 h1,.int .i64 h2,.int .i64 h3,.int .i64 h4] 73)
   have CX1:=stay1 CX (.cells #[.int .i64 h1,.int .i64 h2,.int .i64 h3,.int .i64 h4] 73)
   have CH1:=alloc_blk wr (.cells #[.int .i64 h1,.int .i64 h2,.int .i64 h3,.int .i64 h4] 73)
   clear hcell hd HR
   subst hg
   by_cases c1:p < h1
   ·rw [if_pos c1] at hr
    have HG:=hide hr
    clear hr
    go_wp2
    go_roundw
    case rel=>exact ⟨q+1,by omega,by go_num,HG,hB1,CF1,CM1,CX1⟩
    case measure=>simp [intOf]; omega
   ·rw [if_neg c1] at hr
    by_cases c2:h2≤p
    ·rw [if_pos c2] at hr
     have HG:=hide hr
     clear hr
     go_wp2
     go_roundw
     case rel=>exact ⟨q+1,by omega,by go_num,HG,hB1,CF1,CM1,CX1⟩
     case measure=>simp [intOf]; omega
    ·rw [if_neg c2] at hr
     have hmp:=unhide HMP h3 _ hB1
     generalize mp h3=MP at *
     have HMP3:=hide hmp
     clear hmp
     cases hsm:MP.isSome with
     | false =>
      rw [hsm,if_pos rfl] at hr
      have HE:=hide hr
      rw [hsm] at HMP3
      clear hr
      go_wp2_with fail
      refine (unhide HMP3).mono ?_
      rintro e w2 ⟨u,rfl,-,hb2⟩
      have hB2:=hB1.trans (hb2.mono hB1.size)
      obtain ⟨ua,un,uc,va,vn,vc⟩:=u
      go_wp2
      go_ret
      exact ⟨by rw [← unhide HE]; rfl,hB2.alloc hB2.size _⟩
     | true =>
      rw [hsm,if_neg (by simp)] at hr
      rw [hsm] at HMP3
      have HRR:=hide hr
      clear hr
      go_wp2_with fail
      refine (unhide HMP3).mono ?_
      rintro e w2 ⟨u,rfl,hu,hb2⟩
      have hB2:=hB1.trans (hb2.mono hB1.size)
      obtain ⟨ua,un,uc,va,vn,vc⟩:=u
      have F2:=stay1 (stay hb2 CF1) (.cells #[.slice ua un uc,.slice va vn vc] 75)
      have X2:=stay1 (stay hb2 CX1) (.cells #[.slice ua un uc,.slice va vn vc] 75)
      have M2:=stay1 (stay hb2 CM1) (.cells #[.slice ua un uc,.slice va vn vc] 75)
      have H2:=stay1 (stay hb2 CH1) (.cells #[.slice ua un uc,.slice va vn vc] 75)
      have U2:=alloc_blk w2 (.cells #[.slice ua un uc,.slice va vn vc] 75)
      have f0:(w2.alloc (.cells #[.slice ua un uc,.slice va vn vc] 75)).cell? ⟨w.heap.size,0,none⟩=some (.slice fa1 fl fc1):=(blk_cell F2 0).trans rfl
      have f1:(w2.alloc (.cells #[.slice ua un uc,.slice va vn vc] 75)).cell? ⟨w.heap.size,1,none⟩=some (.slice fa2 fm fc2):=(blk_cell F2 1).trans rfl
      have x0:(w2.alloc (.cells #[.slice ua un uc,.slice va vn vc] 75)).cell? ⟨w.heap.size+1+1,0,none⟩=some (.slice la ln lc):=(blk_cell X2 0).trans rfl
      have hc3:(w2.alloc (.cells #[.slice ua un uc,.slice va vn vc] 75)).cell? ⟨wr.heap.size,3,none⟩=some (.int .i64 h4):=(blk_cell H2 3).trans rfl
      have u0:(w2.alloc (.cells #[.slice ua un uc,.slice va vn vc] 75)).cell? ⟨w2.heap.size,0,none⟩=some (.slice ua un uc):=(blk_cell U2 0).trans rfl
      have u1:(w2.alloc (.cells #[.slice ua un uc,.slice va vn vc] 75)).cell? ⟨w2.heap.size,1,none⟩=some (.slice va vn vc):=(blk_cell U2 1).trans rfl
      have lF2:w.heap.size < (w2.alloc (.cells #[.slice ua un uc,.slice va vn vc] 75)).heap.size:=lt_of_block F2
      have lX2:w.heap.size+1+1 < (w2.alloc (.cells #[.slice ua un uc,.slice va vn vc] 75)).heap.size:=lt_of_block X2
      have lH2:wr.heap.size < (w2.alloc (.cells #[.slice ua un uc,.slice va vn vc] 75)).heap.size:=lt_of_block H2
      have lU2:w2.heap.size < (w2.alloc (.cells #[.slice ua un uc,.slice va vn vc] 75)).heap.size:=lt_of_block U2
      clear m0 m1 m2 m3 m4 m5 m6 m7 m8 m9 m10 m11 y0 y1 y2 y3 lF lM lX
      go_wp2
      refine wp_region_held_drew (S:=(fun w'=>w'.cell? ⟨w.heap.size,0,none⟩=some (.slice fa1 fl fc1)∧w'.cell? ⟨w.heap.size,1,none⟩=some (.slice fa2 fm fc2)∧w'.cell? ⟨w.heap.size+1+1,0,none⟩=some (.slice la ln lc)∧w'.cell? ⟨wr.heap.size,3,none⟩=some (.int .i64 h4)∧w'.cell? ⟨w2.heap.size,0,none⟩=some (.slice ua un uc)∧w'.cell? ⟨w2.heap.size,1,none⟩=some (.slice va vn vc))) (by kernel_rfl) ⟨f0,f1,x0,hc3,u0,u1⟩ (fun hHeld=>?_)
      refine wpAnyH_take (i:=0) (oi:=⟨_,_,_,_,_,_⟩) (v:=.agg #[.slice fa1 fl fc1,.slice fa2 fm fc2]) rfl (by kernel_rfl) (by kernel_rfl) (by kernel_rfl) (fun _ _ _ h=>h) (Or.inl ⟨by rfl,?_⟩) hHeld ?_
      ·intro w' hSw
       try dsimp only at hSw
       go_simp
      try simp only [Act.put,List.setIfInBounds_toArray,List.set_cons_zero,List.set_cons_succ]
      refine wpAnyH_take (i:=1) (oi:=⟨_,_,_,_,_,_⟩) (v:=.pointer (some ⟨w.heap.size+1+1,0,none⟩)) rfl (by kernel_rfl) (by kernel_rfl) (by kernel_rfl) (fun _ _ _ h=>h) (Or.inl ⟨by rfl,?_⟩) hHeld ?_
      ·intro w' hSw
       try dsimp only at hSw
       go_simp
      try simp only [Act.put,List.setIfInBounds_toArray,List.set_cons_zero,List.set_cons_succ]
      refine wpAnyH_take (i:=2) (oi:=⟨_,_,_,_,_,_⟩) (v:=.slice la ln lc) rfl (by kernel_rfl) (by kernel_rfl) (by kernel_rfl) (fun _ _ _ h=>h) (Or.inl ⟨by rfl,?_⟩) hHeld ?_
      ·intro w' hSw
       try dsimp only at hSw
       go_simp
      try simp only [Act.put,List.setIfInBounds_toArray,List.set_cons_zero,List.set_cons_succ]
      refine wpAnyH_take (i:=3) (oi:=⟨_,_,_,_,_,_⟩) (v:=.pointer (some ⟨wr.heap.size,3,none⟩)) rfl (by kernel_rfl) (by kernel_rfl) (by kernel_rfl) (fun _ _ _ h=>h) (Or.inl ⟨by rfl,?_⟩) hHeld ?_
      ·intro w' hSw
       try dsimp only at hSw
       go_simp
      try simp only [Act.put,List.setIfInBounds_toArray,List.set_cons_zero,List.set_cons_succ]
      refine wpAnyH_take (i:=4) (oi:=⟨_,_,_,_,_,_⟩) (v:=.int .i64 h4) rfl (by kernel_rfl) (by kernel_rfl) (by kernel_rfl) (fun _ _ _ h=>h) (Or.inl ⟨by rfl,?_⟩) hHeld ?_
      ·intro w' hSw
       try dsimp only at hSw
       go_simp
      try simp only [Act.put,List.setIfInBounds_toArray,List.set_cons_zero,List.set_cons_succ]
      refine wpAnyH_take (i:=8) (oi:=⟨_,_,_,_,_,_⟩) (v:=.agg #[.slice ua un uc,.slice va vn vc]) rfl (by kernel_rfl) (by kernel_rfl) (by kernel_rfl) (fun _ _ _ h=>h) (Or.inl ⟨by rfl,?_⟩) hHeld ?_
      ·intro w' hSw
       try dsimp only at hSw
       go_simp
      try simp only [Act.put,List.setIfInBounds_toArray,List.set_cons_zero,List.set_cons_succ]
      refine wpAnyH_ready (rs:=[5]) (by kernel_rfl) (by simp) ?_
      refine AllReadyH.cons (o:=⟨_,_,_,_,_,_⟩) rfl (fun K hK=>?_) AllReadyH.nil
      go_simp
      refine (rref_any h4 _).mono ?_
      rintro e w7 ⟨rfl,hb7⟩
      try dsimp only
      clear hHeld
      refine hK.out _ _ ⟨(hb7.cell lF2).trans f0,(hb7.cell lF2).trans f1,(hb7.cell lX2).trans x0,(hb7.cell lH2).trans hc3,(hb7.cell lU2).trans u0,(hb7.cell lU2).trans u1⟩ (fun hHeld=>?_)
      clear hK K
      try simp only [Act.put,List.setIfInBounds_toArray,List.set_cons_zero,List.set_cons_succ]
      refine wpAnyH_ready (rs:=[6]) (by kernel_rfl) (by simp) ?_
      refine AllReadyH.cons (o:=⟨_,_,_,_,_,_⟩) rfl (fun K hK=>?_) AllReadyH.nil
      go_simp
      clear hHeld
      refine hK.out _ _ ⟨(World.cell?_alloc_lt _ _ _ (Nat.lt_of_lt_of_le lF2 hb7.size)).trans ((hb7.cell lF2).trans f0),(World.cell?_alloc_lt _ _ _ (Nat.lt_of_lt_of_le lF2 hb7.size)).trans ((hb7.cell lF2).trans f1),(World.cell?_alloc_lt _ _ _ (Nat.lt_of_lt_of_le lX2 hb7.size)).trans ((hb7.cell lX2).trans x0),(World.cell?_alloc_lt _ _ _ (Nat.lt_of_lt_of_le lH2 hb7.size)).trans ((hb7.cell lH2).trans hc3),(World.cell?_alloc_lt _ _ _ (Nat.lt_of_lt_of_le lU2 hb7.size)).trans ((hb7.cell lU2).trans u0),(World.cell?_alloc_lt _ _ _ (Nat.lt_of_lt_of_le lU2 hb7.size)).trans ((hb7.cell lU2).trans u1)⟩ (fun hHeld=>?_)
      clear hK K
      try simp only [Act.put,List.setIfInBounds_toArray,List.set_cons_zero,List.set_cons_succ]
      refine wpAnyH_take (i:=7) (oi:=⟨_,_,_,_,_,_⟩) (v:=.agg #[.slice la ln lc,.slice (some ⟨w7.heap.size,0,none⟩) 1 1]) rfl (by kernel_rfl) (by kernel_rfl) (by kernel_rfl) (fun _ _ _ h=>h) (Or.inl ⟨by rfl,?_⟩) hHeld ?_
      ·intro w' hSw
       try dsimp only at hSw
       go_simp
      try simp only [Act.put,List.setIfInBounds_toArray,List.set_cons_zero,List.set_cons_succ]
      refine wpAnyH_ready (rs:=[9]) (by kernel_rfl) (by simp) ?_
      refine AllReadyH.cons (o:=⟨_,_,_,_,_,_⟩) rfl (fun K hK=>?_) AllReadyH.nil
      go_simp
      have hB2':Below w.heap.size w (w2.alloc (.cells #[.slice ua un uc,.slice va vn vc] 75)).drew:=(hB2.alloc hB2.size _).drew
      have hB7:=hB2'.trans (hb7.mono hB2'.size)
      have hB8:=hB7.alloc hB7.size (.cells #[.int .i64 3,.int .i64 h4] 48)
      have hu8:FrV.is ⟨ua,un,uc,va,vn,vc⟩ (Ck.orNone MP) (w7.alloc (.cells #[.int .i64 3,.int .i64 h4] 48)):=((hu.below (((Below.refl _ _).alloc (Nat.le_refl _) _).drew)).below hb7).below ((Below.refl _ _).alloc (Nat.le_refl _) _)
      have hx8:FrV.is ⟨la,ln,lc,some ⟨w7.heap.size,0,none⟩,1,1⟩ ⟨x.locals,[(3,h4)]⟩ (w7.alloc (.cells #[.int .i64 3,.int .i64 h4] 48)):=⟨hvl.below hB8,TyR.new1 w7 3 h4,hvh,by simp⟩
      refine (unhide HFF ⟨la,ln,lc,some ⟨w7.heap.size,0,none⟩,1,1⟩ ⟨ua,un,uc,va,vn,vc⟩ _ _ _ hB8 hx8 hu8).mono ?_
      rintro e w9 ⟨rfl,hb9⟩
      try dsimp only
      clear hHeld
      refine hK.out _ _ ⟨(hb9.cell (Nat.lt_of_lt_of_le (Nat.lt_of_lt_of_le lF2 hb7.size) (by simp))).trans ((World.cell?_alloc_lt _ _ _ (Nat.lt_of_lt_of_le lF2 hb7.size)).trans ((hb7.cell lF2).trans f0)),(hb9.cell (Nat.lt_of_lt_of_le (Nat.lt_of_lt_of_le lF2 hb7.size) (by simp))).trans ((World.cell?_alloc_lt _ _ _ (Nat.lt_of_lt_of_le lF2 hb7.size)).trans ((hb7.cell lF2).trans f1)),(hb9.cell (Nat.lt_of_lt_of_le (Nat.lt_of_lt_of_le lX2 hb7.size) (by simp))).trans ((World.cell?_alloc_lt _ _ _ (Nat.lt_of_lt_of_le lX2 hb7.size)).trans ((hb7.cell lX2).trans x0)),(hb9.cell (Nat.lt_of_lt_of_le (Nat.lt_of_lt_of_le lH2 hb7.size) (by simp))).trans ((World.cell?_alloc_lt _ _ _ (Nat.lt_of_lt_of_le lH2 hb7.size)).trans ((hb7.cell lH2).trans hc3)),(hb9.cell (Nat.lt_of_lt_of_le (Nat.lt_of_lt_of_le lU2 hb7.size) (by simp))).trans ((World.cell?_alloc_lt _ _ _ (Nat.lt_of_lt_of_le lU2 hb7.size)).trans ((hb7.cell lU2).trans u0)),(hb9.cell (Nat.lt_of_lt_of_le (Nat.lt_of_lt_of_le lU2 hb7.size) (by simp))).trans ((World.cell?_alloc_lt _ _ _ (Nat.lt_of_lt_of_le lU2 hb7.size)).trans ((hb7.cell lU2).trans u1))⟩ (fun hHeld=>?_)
      clear hK K
      try simp only [Act.put,List.setIfInBounds_toArray,List.set_cons_zero,List.set_cons_succ]
      refine wpAnyH_take (i:=10) (oi:=⟨_,_,_,_,_,_⟩) (v:=.bool (Ck.frameFits T ⟨x.locals,[(3,h4)]⟩ (Ck.orNone MP))) rfl (by kernel_rfl) (by kernel_rfl) (by kernel_rfl) (fun _ _ _ h=>h) (Or.inl ⟨by rfl,?_⟩) hHeld ?_
      ·intro w' hSw
       try dsimp only at hSw
       go_simp
      try simp only [Act.put,List.setIfInBounds_toArray,List.set_cons_zero,List.set_cons_succ]
      refine wpAnyH_done (by kernel_rfl) ?_ _
      have hB9:=hB8.trans (hb9.mono hB8.size)
      have hb89:Below (w2.alloc (.cells #[.slice ua un uc,.slice va vn vc] 75)).heap.size (w2.alloc (.cells #[.slice ua un uc,.slice va vn vc] 75)) w9:=by
       have h1:Below (w2.alloc (.cells #[.slice ua un uc,.slice va vn vc] 75)).heap.size (w2.alloc (.cells #[.slice ua un uc,.slice va vn vc] 75)) w7:=((Below.refl _ _).drew).trans hb7
       have h2:=h1.alloc h1.size (.cells #[.int .i64 3,.int .i64 h4] 48)
       exact h2.trans (hb9.mono h2.size)
      have F9:=stay hb89 F2
      have M9:=stay hb89 M2
      have X9:=stay hb89 X2
      clear hHeld f0 f1 x0 hc3 u0 u1 hb7 hb9 hb89 F2 M2 X2 H2 U2 hu8 hx8 hB7 hB8 hB2' hB2 hb2 hu
      have hr:=unhide HRR
      generalize Ck.frameFits T ⟨x.locals,[(3,h4)]⟩ (Ck.orNone MP)=FFB at *
      cases FFB with
      | true =>
       have HG:Hid (Ck.handlers T mp p x.locals (hs.drop (q+1))=R):=by unfold Hid; rw [← hr]; simp
       clear hr HRR
       go_wp2
       go_roundw
       case rel=>exact ⟨q+1,by omega,by go_num,HG,hB9,F9,M9,X9⟩
       case measure=>simp [intOf]; omega
      | false =>
       have HE:Hid ((9:Int)=R):=by unfold Hid; rw [← hr]; simp
       clear hr HRR
       go_wp2
       go_ret
       exact ⟨by rw [← unhide HE]; rfl,hB9⟩
  ·have HE:Hid ((0:Int)=R):=by unfold Hid; rw [← unhide HR,List.drop_eq_nil_of_le (by omega)]; rfl
   have kb:¬ (q:Int) < (hs.length:Int):=by omega
   clear HR
   go_wp2
   go_ret
   exact ⟨by rw [← unhide HE]; rfl,hB⟩
end Go.Proofs.YteffpdofcgbokaaGreat

/-
  The program's rules of types as plain functions; they are the document's, of frames as they come up.
-/
namespace Go.Proofs.YteffpdofcgbokaaGreat
/-- moved, with the lists that takes, leaves and All give -/
def Ck.movedL (T:List Int) (tk lv want:List (Int × Int)) (arg:Int→Int) (p op n:Int) (x:Ck.Fr):Option Ck.Fr :=
 if op=2 then (if (x.locals.getD n.toNat (0,0)).1=0 then none else some ⟨x.locals,x.stack ++ [x.locals.getD n.toNat (0,0)]⟩)
 else if op=3 then (if x.stack.length < 1 then none else some ⟨x.locals.set n.toNat (x.stack.getD (x.stack.length - 1) (0,0)),x.stack.take (x.stack.length - 1)⟩)
 else if op=4 then (if x.stack.length < 1 then none else some ⟨x.locals,x.stack.take (x.stack.length - 1)⟩)
 else if op=5 then (if x.stack.length < 1 then none else some ⟨x.locals,x.stack ++ x.stack.drop (x.stack.length - 1)⟩)
 else if op=6 then (if x.stack.length < 2 then none else some ⟨x.locals,x.stack.take (x.stack.length - 2) ++ [x.stack.getD (x.stack.length - 1) (0,0),x.stack.getD (x.stack.length - 2) (0,0)]⟩)
 else if op=15 then some ⟨Ck.turned (4,p) (0,0) x.locals,Ck.turned (4,p) (0,0) x.stack ++ [(4,p)]⟩
 else if op=16 then Ck.set T want arg n x
 else if Ck.top T x.stack tk=false then none
 else some ⟨x.locals,x.stack.take (x.stack.length - tk.length) ++ lv⟩
theorem moved_L (T:List Int) (F:List Rf.Fld) (ms:List Rd.Mth) (want:Int→List (Int × Int)) (arg:Int→Int) (res:Int × Int) (p op n:Int) (x:Ck.Fr) :
  Ck.moved T F ms want arg res p op n x=Ck.movedL T (Ck.takes F ms res op n) (Ck.leaves F ms op n) (want n) arg p op n x:=rfl
/-- a bench: a frame at work, and whether something did not hold -/
structure Pk.B where
 lo:List (Int × Int)
 st:List (Int × Int)
 br:Bool
def Pk.take (b:Pk.B):(Int × Int) × Pk.B :=
 if b.st.length=0 then ((0,0),⟨b.lo,b.st,true⟩) else (b.st.getD (b.st.length - 1) (0,0),⟨b.lo,b.st.take (b.st.length - 1),b.br⟩)
def Pk.fit (T:List Int) (t x:Int × Int) (b:Pk.B):Pk.B:=if Tr.fitsB T t.1 t.2 x.1 x.2=true then b else ⟨b.lo,b.st,true⟩
def Pk.takeTo (T:List Int) (l:List (Int × Int)):Nat→Pk.B→Pk.B
 | 0,b=>b
 | i+1,b=>Pk.takeTo T l i (Pk.fit T (Pk.take b).1 (l.getD i (0,0)) (Pk.take b).2)
def Pk.takeAll (T:List Int) (l:List (Int × Int)) (b:Pk.B):Pk.B:=Pk.takeTo T l l.length b
def Pk.leave (hi:Int) (t:Int × Int) (b:Pk.B):Pk.B:=if hi≤(b.st.length:Int) then ⟨b.lo,b.st,true⟩ else ⟨b.lo,b.st ++ [t],b.br⟩
def Pk.leaveAll (hi:Int):List (Int × Int)→Pk.B→Pk.B
 | [],b=>b
 | t :: r,b=>Pk.leaveAll hi r (Pk.leave hi t b)
def Pk.load (hi n:Int) (b:Pk.B):Pk.B :=
 if n < 0 then ⟨b.lo,b.st,true⟩ else if (b.lo.length:Int)≤n then ⟨b.lo,b.st,true⟩ else if (b.lo.getD n.toNat (0,0)).1=0 then ⟨b.lo,b.st,true⟩ else Pk.leave hi (b.lo.getD n.toNat (0,0)) b
def Pk.store (n:Int) (b:Pk.B):Pk.B :=
 if n < 0 then ⟨b.lo,(Pk.take b).2.st,true⟩ else if (b.lo.length:Int)≤n then ⟨b.lo,(Pk.take b).2.st,true⟩ else ⟨b.lo.set n.toNat (Pk.take b).1,(Pk.take b).2.st,(Pk.take b).2.br⟩
def Pk.become (old fresh:Int × Int) (b:Pk.B):Pk.B:=⟨Ck.turned old fresh b.lo,Ck.turned old fresh b.st,b.br⟩
def Pk.swap (hi:Int) (b:Pk.B):Pk.B:=Pk.leave hi (Pk.take (Pk.take b).2).1 (Pk.leave hi (Pk.take b).1 (Pk.take (Pk.take b).2).2)
def Pk.dup (hi:Int) (b:Pk.B):Pk.B:=Pk.leave hi (Pk.take b).1 (Pk.leave hi (Pk.take b).1 (Pk.take b).2)
/-- Init's rule; isNew: is there a New of the class at a place -/
def Pk.setAt (isNew:Int→Bool) (c:Int) (t:Int × Int) (b:Pk.B):Pk.B :=
 if t.1 ≠ 4 then ⟨b.lo,b.st,true⟩ else if isNew t.2=false then ⟨b.lo,b.st,true⟩ else Pk.become t (3,c) b
def Pk.set (T:List Int) (want:List (Int × Int)) (isNew:Int→Bool) (c:Int) (b:Pk.B):Pk.B :=
 Pk.setAt isNew c (Pk.take (Pk.takeAll T want b)).1 (Pk.take (Pk.takeAll T want b)).2
def Pk.out (b:Pk.B):Option Ck.Fr:=if b.br=true then none else some ⟨b.lo,b.st⟩
/-- what Behind works; tk, lv, want: what takes, leaves, FieldsOf give -/
def Pk.works (T:List Int) (hi:Int) (tk lv want:List (Int × Int)) (isNew:Int→Bool) (p op n:Int) (b:Pk.B):Pk.B :=
 if op=2 then Pk.load hi n b else if op=3 then Pk.store n b else if op=4 then (Pk.take b).2 else if op=5 then Pk.dup hi b else if op=6 then Pk.swap hi b
 else if op=15 then Pk.leave hi (4,p) (Pk.become (4,p) (0,0) b) else if op=16 then Pk.set T want isNew n b else Pk.leaveAll hi lv (Pk.takeAll T tk b)
def Pk.behind (T:List Int) (hi:Int) (tk lv want:List (Int × Int)) (isNew:Int→Bool) (p op n:Int) (x:Ck.Fr):Option Ck.Fr:=Pk.out (Pk.works T hi tk lv want isNew p op n ⟨x.locals,x.stack,false⟩)

/-- whether all fit, by the program -/
def Pk.fitAll (T:List Int):List (Int × Int)→List (Int × Int)→Bool
 | _,[]=>true
 | [],_ :: _=>false
 | s :: ss,t :: ts=>Tr.fitsB T s.1 s.2 t.1 t.2 && Pk.fitAll T ss ts

theorem fitAll_eq {T:List Int} (hT:Tr.Ok T):∀ (a b:List (Int × Int)),(∀ t∈a,Tr.Arg T t.1 t.2)→(∀ t∈b,Tr.Arg T t.1 t.2)→Ck.fitAll T a b=Pk.fitAll T a b
 | _,[],_,_=>by simp [Ck.fitAll,Pk.fitAll]
 | [],_ :: _,_,_=>by simp [Ck.fitAll,Pk.fitAll]
 | s :: ss,t :: ts,ha,hb=>by
  rw [Ck.fitAll,Pk.fitAll,Tr.rfits_eq hT (ha s (by simp)) (hb t (by simp)),fitAll_eq hT ss ts (fun x hx=>ha x (by simp [hx])) (fun x hx=>hb x (by simp [hx]))]

theorem pfit_snoc (T:List Int) (t x:Int × Int):∀ (a b:List (Int × Int)),a.length=b.length→Pk.fitAll T (a ++ [t]) (b ++ [x])=(Pk.fitAll T a b && Tr.fitsB T t.1 t.2 x.1 x.2)
 | [],[],_=>by simp [Pk.fitAll]
 | [],_ :: _,h=>by simp at h
 | _ :: _,[],h=>by simp at h
 | s :: ss,y :: ys,h=>by
  simp only [List.cons_append,Pk.fitAll]
  rw [pfit_snoc T t x ss ys (by simpa using h),Bool.and_assoc]

theorem take_lo (b:Pk.B):(Pk.take b).2.lo=b.lo:=by unfold Pk.take; split <;> rfl
theorem fit_lo (T:List Int) (t x:Int × Int) (b:Pk.B):(Pk.fit T t x b).lo=b.lo∧(Pk.fit T t x b).st=b.st∧(Pk.fit T t x b).br=(b.br || !Tr.fitsB T t.1 t.2 x.1 x.2):=by
 unfold Pk.fit
 cases Tr.fitsB T t.1 t.2 x.1 x.2 <;> simp
theorem snoc_of {α:Type} (l:List α) (d:α) (h:l.length ≠ 0):l=l.take (l.length - 1) ++ [l.getD (l.length - 1) d]:=by
 have hk:l.length - 1 < l.length:=by omega
 have:=List.take_succ_eq_append_getElem hk
 rw [show l.length - 1+1=l.length by omega,List.take_length] at this
 rw [List.getD_eq_getElem?_getD,List.getElem?_eq_getElem hk]
 exact this

theorem takeTo_br (T:List Int) (l:List (Int × Int)):∀ (k:Nat) (b:Pk.B),b.br=true→(Pk.takeTo T l k b).br=true
 | 0,b,h=>h
 | k+1,b,h=>by
  unfold Pk.takeTo
  refine takeTo_br T l k _ ?_
  rw [(fit_lo _ _ _ _).2.2]
  have:(Pk.take b).2.br=true:=by unfold Pk.take; split <;> simp [h]
  rw [this]; rfl

theorem takeTo_spec (T:List Int) (l:List (Int × Int)):∀ (k:Nat),k≤l.length→∀ (b:Pk.B),(Pk.takeTo T l k b).lo=b.lo ∧
  (k≤b.st.length→(Pk.takeTo T l k b).st=b.st.take (b.st.length - k)∧(Pk.takeTo T l k b).br=(b.br || !Pk.fitAll T (b.st.drop (b.st.length - k)) (l.take k))) ∧
  (b.st.length < k→(Pk.takeTo T l k b).br=true)
 | 0,_,b=>by
  refine ⟨rfl,fun _=>⟨?_,?_⟩,fun h=>by omega⟩
  ·simp [Pk.takeTo]
  ·simp [Pk.takeTo,Pk.fitAll]
 | k+1,hk,b=>by
  have hkl:k < l.length:=by omega
  unfold Pk.takeTo
  obtain ⟨i1,i2,i3⟩:=takeTo_spec T l k (by omega) (Pk.fit T (Pk.take b).1 (l.getD k (0,0)) (Pk.take b).2)
  obtain ⟨f1,f2,f3⟩:=fit_lo T (Pk.take b).1 (l.getD k (0,0)) (Pk.take b).2
  rw [f1,take_lo] at i1
  rw [f2,f3] at i2
  rw [f2] at i3
  by_cases h0:b.st.length=0
  ·refine ⟨i1,fun h=>by omega,fun _=>?_⟩
   have e:Pk.take b=((0,0),⟨b.lo,b.st,true⟩):=by unfold Pk.take; rw [if_pos h0]
   refine takeTo_br _ _ _ _ ?_
   rw [f3,e]; rfl
  ·have e:Pk.take b=(b.st.getD (b.st.length - 1) (0,0),⟨b.lo,b.st.take (b.st.length - 1),b.br⟩):=by unfold Pk.take; rw [if_neg h0]
   rw [e] at i1 i2 i3 ⊢
   simp only at i1 i2 i3 ⊢
   have hlen:(b.st.take (b.st.length - 1)).length=b.st.length - 1:=by simp
   rw [hlen] at i2 i3
   refine ⟨i1,fun h=>?_,fun h=>i3 (by omega)⟩
   obtain ⟨j1,j2⟩:=i2 (by omega)
   refine ⟨?_,?_⟩
   ·rw [j1,List.take_take]
    congr 1; omega
   ·rw [j2]
    have hs:=snoc_of b.st (0,0) h0
    have hd:b.st.drop (b.st.length - (k+1))=(b.st.take (b.st.length - 1)).drop (b.st.length - 1 - k) ++ [b.st.getD (b.st.length - 1) (0,0)]:=by
     conv=>lhs; rw [hs]
     rw [List.length_append,hlen,List.drop_append_of_le_length (by rw [hlen]; simp)]
     congr 2
     simp only [List.length_singleton]; omega
    have hl:l.take (k+1)=l.take k ++ [l.getD k (0,0)]:=by
     rw [List.take_succ_eq_append_getElem hkl,List.getD_eq_getElem?_getD,List.getElem?_eq_getElem hkl]; rfl
    rw [hd,hl,pfit_snoc _ _ _ _ _ (by simp; omega)]
    cases b.br <;> cases Pk.fitAll T (List.drop (b.st.length - 1 - k) (List.take (b.st.length - 1) b.st)) (List.take k l) <;> simp

theorem takeAll_spec {T:List Int} (hT:Tr.Ok T) (l:List (Int × Int)) (b:Pk.B) (hb:∀ t∈b.st,Tr.Arg T t.1 t.2) (hl:∀ t∈l,Tr.Arg T t.1 t.2) :
  (Pk.takeAll T l b).lo=b.lo∧(Ck.top T b.st l=true→(Pk.takeAll T l b).st=b.st.take (b.st.length - l.length)∧(Pk.takeAll T l b).br=b.br)∧(Ck.top T b.st l=false→(Pk.takeAll T l b).br=true):=by
 obtain ⟨h1,h2,h3⟩:=takeTo_spec T l l.length (Nat.le_refl _) b
 unfold Pk.takeAll Ck.top
 refine ⟨h1,fun h=>?_,fun h=>?_⟩
 ·by_cases hn:b.st.length < l.length
  ·rw [if_pos hn] at h; cases h
  ·rw [if_neg hn,fitAll_eq hT _ _ (fun t ht=>hb t (List.mem_of_mem_drop ht)) hl] at h
   obtain ⟨g1,g2⟩:=h2 (by omega)
   refine ⟨g1,?_⟩
   rw [g2,List.take_length,h]; simp
 ·by_cases hn:b.st.length < l.length
  ·exact h3 hn
  ·rw [if_neg hn,fitAll_eq hT _ _ (fun t ht=>hb t (List.mem_of_mem_drop ht)) hl] at h
   obtain ⟨g1,g2⟩:=h2 (by omega)
   rw [g2,List.take_length,h]; simp

theorem leave_br {hi:Int}{t:Int × Int}{b:Pk.B} (h:b.br=true):(Pk.leave hi t b).br=true:=by unfold Pk.leave; split <;> simp [h]
theorem leaveAll_br {hi:Int}:∀ {l:List (Int × Int)}{b:Pk.B},b.br=true→(Pk.leaveAll hi l b).br=true
 | [],_,h=>h
 | _ :: r,_,h=>leaveAll_br (l:=r) (leave_br h)
theorem take_br {b:Pk.B} (h:b.br=true):(Pk.take b).2.br=true:=by unfold Pk.take; split <;> simp [h]
theorem out_br {b:Pk.B} (h:b.br=true):Pk.out b=none:=by unfold Pk.out; rw [if_pos h]
theorem out_ok {b:Pk.B} (h:b.br=false):Pk.out b=some ⟨b.lo,b.st⟩:=by unfold Pk.out; rw [h]; rfl
theorem turned_len (a b:Int × Int) (l:List (Int × Int)):(Ck.turned a b l).length=l.length:=by simp [Ck.turned]

/-- the program's rule is the document's, of frames as they come up -/
theorem behind_eq {T:List Int} (hT:Tr.Ok T) (hi:Int) (tk lv want:List (Int × Int)) (isNew:Int→Bool) (arg:Int→Int) (p op n:Int) (x:Ck.Fr)
  (hs:∀ t∈x.stack,Tr.Arg T t.1 t.2) (htk:∀ t∈tk,Tr.Arg T t.1 t.2) (hwant:∀ t∈want,Tr.Arg T t.1 t.2) (hlv:lv.length≤1) (hhi:(x.stack.length:Int)≤hi)
  (hn:op=2∨op=3→0≤n∧n < (x.locals.length:Int)) (hnew:op=16→∀ t∈x.stack,t.1=4→(isNew t.2=true↔arg t.2=n)) :
  Pk.behind T hi tk lv want isNew p op n x=Ck.rule hi (Ck.movedL T tk lv want arg p op n x):=by
 unfold Pk.behind Pk.works Ck.movedL
 by_cases h2:op=2
 ·rw [if_pos h2,if_pos h2]
  obtain ⟨a1,a2⟩:=hn (.inl h2)
  unfold Pk.load
  rw [if_neg (by omega),if_neg (by simpa using a2)]
  by_cases h0:(x.locals.getD n.toNat (0,0)).1=0
  ·rw [if_pos h0,if_pos h0]; rfl
  ·rw [if_neg h0,if_neg h0]
   unfold Pk.leave Ck.rule
   by_cases hh:hi≤(x.stack.length:Int)
   ·rw [if_pos hh]; simp [Pk.out]; omega
   ·rw [if_neg hh]; simp [Pk.out]; omega
 rw [if_neg h2,if_neg h2]
 by_cases h3:op=3
 ·rw [if_pos h3,if_pos h3]
  obtain ⟨a1,a2⟩:=hn (.inr h3)
  unfold Pk.store
  rw [if_neg (by omega),if_neg (by simpa using a2)]
  unfold Pk.take
  by_cases hz:x.stack.length=0
  ·rw [if_pos (show x.stack.length < 1 by omega)]; simp [hz,Pk.out,Ck.rule]
  ·rw [if_neg (show ¬ x.stack.length < 1 by omega)]
   simp only [hz,if_false]
   simp [Pk.out,Ck.rule]; omega
 rw [if_neg h3,if_neg h3]
 by_cases h4:op=4
 ·rw [if_pos h4,if_pos h4]
  unfold Pk.take
  by_cases hz:x.stack.length=0
  ·rw [if_pos (show x.stack.length < 1 by omega)]; simp [hz,Pk.out,Ck.rule]
  ·rw [if_neg (show ¬ x.stack.length < 1 by omega)]
   simp only [hz,if_false]
   simp [Pk.out,Ck.rule]; omega
 rw [if_neg h4,if_neg h4]
 by_cases h5:op=5
 ·rw [if_pos h5,if_pos h5]
  unfold Pk.dup Pk.take
  by_cases hz:x.stack.length=0
  ·rw [if_pos (show x.stack.length < 1 by omega)]
   rw [out_br (leave_br (leave_br (by simp [hz])))]; rfl
  ·rw [if_neg (show ¬ x.stack.length < 1 by omega)]
   simp only [hz,if_false]
   have hsn:=snoc_of x.stack (0,0) hz
   have hdr:x.stack.drop (x.stack.length - 1)=[x.stack.getD (x.stack.length - 1) (0,0)]:=by
    conv=>lhs; rw [hsn]
    rw [List.drop_append_of_le_length (by simp)]
    simp
   rw [hdr]
   have e1:Pk.leave hi (x.stack.getD (x.stack.length - 1) (0,0)) ⟨x.locals,x.stack.take (x.stack.length - 1),false⟩=⟨x.locals,x.stack,false⟩:=by
    unfold Pk.leave
    rw [if_neg (by simp; omega)]
    simp only [← hsn]
   rw [e1]
   unfold Pk.leave Ck.rule
   by_cases hh:hi≤(x.stack.length:Int)
   ·rw [if_pos hh]; simp [Pk.out]; omega
   ·rw [if_neg hh]; simp [Pk.out]; omega
 rw [if_neg h5,if_neg h5]
 by_cases h6:op=6
 ·rw [if_pos h6,if_pos h6]
  unfold Pk.swap
  by_cases hz:x.stack.length=0
  ·rw [if_pos (show x.stack.length < 2 by omega)]
   have:(Pk.take ⟨x.locals,x.stack,false⟩).2.br=true:=by unfold Pk.take; simp [hz]
   rw [out_br (leave_br (leave_br (take_br this)))]; rfl
  ·have e1:Pk.take ⟨x.locals,x.stack,false⟩=(x.stack.getD (x.stack.length - 1) (0,0),⟨x.locals,x.stack.take (x.stack.length - 1),false⟩):=by unfold Pk.take; simp only [hz,if_false]
   rw [e1]
   simp only
   by_cases hz1:x.stack.length < 2
   ·rw [if_pos hz1]
    have:(Pk.take ⟨x.locals,x.stack.take (x.stack.length - 1),false⟩).2.br=true:=by unfold Pk.take; rw [if_pos (by simp; omega)]
    rw [out_br (leave_br (leave_br this))]; rfl
   ·rw [if_neg hz1]
    have e2:Pk.take ⟨x.locals,x.stack.take (x.stack.length - 1),false⟩=(x.stack.getD (x.stack.length - 2) (0,0),⟨x.locals,x.stack.take (x.stack.length - 2),false⟩):=by
     unfold Pk.take
     rw [if_neg (by simp; omega)]
     simp only [List.length_take,List.take_take,List.getD_eq_getElem?_getD,List.getElem?_take]
     rw [show min (x.stack.length - 1) x.stack.length - 1=x.stack.length - 2 by omega,if_pos (by omega),show min (x.stack.length - 2) (x.stack.length - 1)=x.stack.length - 2 by omega]
    rw [e2]
    simp only
    unfold Pk.leave
    have l1:¬ hi≤((x.stack.take (x.stack.length - 2)).length:Int):=by simp; omega
    rw [if_neg l1]
    have l2:¬ hi≤((x.stack.take (x.stack.length - 2) ++ [x.stack.getD (x.stack.length - 1) (0,0)]).length:Int):=by simp; omega
    simp only [l2,if_false]
    simp [Pk.out,Ck.rule]; omega
 rw [if_neg h6,if_neg h6]
 by_cases h15:op=15
 ·rw [if_pos h15,if_pos h15]
  unfold Pk.become Pk.leave Ck.rule
  simp only [turned_len]
  by_cases hh:hi≤(x.stack.length:Int)
  ·rw [if_pos hh]; simp [Pk.out,turned_len]; omega
  ·rw [if_neg hh]; simp [Pk.out,turned_len]; omega
 rw [if_neg h15,if_neg h15]
 by_cases h16:op=16
 ·rw [if_pos h16,if_pos h16]
  obtain ⟨g1,g2,g3⟩:=takeAll_spec hT want ⟨x.locals,x.stack,false⟩ hs hwant
  unfold Pk.set Ck.set
  simp only at g1 g2 g3
  cases htop:Ck.top T x.stack want with
  | false =>
   have:∀ t (b:Pk.B),b.br=true→Pk.out (Pk.setAt isNew n t b)=none:=by
    intro t b hb
    unfold Pk.setAt Pk.become
    split
    ·rfl
    ·split
     ·rfl
     ·exact out_br hb
   rw [this _ _ (take_br (g3 htop))]
   simp [Ck.rule]
  | true =>
   obtain ⟨k1,k2⟩:=g2 htop
   have hlw:want.length≤x.stack.length:=by
    unfold Ck.top at htop
    by_cases h:x.stack.length < want.length
    ·rw [if_pos h] at htop; cases htop
    ·omega
   rw [if_neg (by simp)]
   generalize hb:Pk.takeAll T want ⟨x.locals,x.stack,false⟩=b at *
   obtain ⟨blo,bst,bbr⟩:=b
   simp only at g1 k1 k2
   subst g1 k1 k2
   by_cases hz:x.stack.length < want.length+1
   ·rw [if_pos hz]
    have e:Pk.take ⟨x.locals,x.stack.take (x.stack.length - want.length),false⟩=((0,0),⟨x.locals,x.stack.take (x.stack.length - want.length),true⟩):=by
     unfold Pk.take; rw [if_pos (by simp; omega)]
    rw [e]
    simp [Pk.setAt,Pk.out,Ck.rule]
   ·rw [if_neg hz]
    have hix:x.stack.length - want.length - 1 < x.stack.length:=by omega
    have e:Pk.take ⟨x.locals,x.stack.take (x.stack.length - want.length),false⟩=(x.stack.getD (x.stack.length - want.length - 1) (0,0),⟨x.locals,x.stack.take (x.stack.length - want.length - 1),false⟩):=by
     unfold Pk.take
     rw [if_neg (by simp; omega)]
     simp only [List.length_take,List.take_take,List.getD_eq_getElem?_getD,List.getElem?_take]
     rw [show min (x.stack.length - want.length) x.stack.length - 1=x.stack.length - want.length - 1 by omega,if_pos (by omega),show min (x.stack.length - want.length - 1) (x.stack.length - want.length)=x.stack.length - want.length - 1 by omega]
    rw [e]
    simp only
    have hm:x.stack.getD (x.stack.length - want.length - 1) (0,0)∈x.stack:=by
     rw [List.getD_eq_getElem?_getD,List.getElem?_eq_getElem hix]
     exact List.getElem_mem hix
    generalize x.stack.getD (x.stack.length - want.length - 1) (0,0)=t at *
    unfold Pk.setAt
    by_cases ht:t.1=4
    ·rw [if_neg (show ¬ t.1 ≠ 4 from fun g=>g ht),if_neg (show ¬ t.1 ≠ 4 from fun g=>g ht)]
     have hiff:=hnew h16 t hm ht
     by_cases ha:arg t.2=n
     ·rw [hiff.2 ha,if_neg (by simp),if_neg (show ¬ arg t.2 ≠ n from fun g=>g ha)]
      unfold Pk.become Ck.rule
      simp [Pk.out,turned_len]; omega
     ·have:isNew t.2=false:=by
       cases h:isNew t.2
       ·rfl
       ·exact absurd (hiff.1 h) ha
      rw [if_pos this,if_pos ha]; rfl
    ·rw [if_pos ht,if_pos ht]; rfl
 rw [if_neg h16,if_neg h16]
 obtain ⟨g1,g2,g3⟩:=takeAll_spec hT tk ⟨x.locals,x.stack,false⟩ hs htk
 simp only at g1 g2 g3
 cases htop:Ck.top T x.stack tk with
 | false=>rw [if_pos rfl,out_br (leaveAll_br (g3 htop))]; rfl
 | true =>
  obtain ⟨k1,k2⟩:=g2 htop
  rw [if_neg (by simp)]
  generalize hb:Pk.takeAll T tk ⟨x.locals,x.stack,false⟩=b at *
  obtain ⟨blo,bst,bbr⟩:=b
  simp only at g1 k1 k2
  subst g1 k1 k2
  match lv,hlv with
  | [],_ =>
   simp [Pk.leaveAll,Pk.out,Ck.rule]; omega
  | [t],_ =>
   simp only [Pk.leaveAll,Pk.leave]
   by_cases hh:hi≤((x.stack.take (x.stack.length - tk.length)).length:Int)
   ·rw [if_pos hh]
    simp at hh
    simp [Pk.out,Ck.rule]; omega
   ·rw [if_neg hh]
    simp at hh
    simp [Pk.out,Ck.rule]; omega
end Go.Proofs.YteffpdofcgbokaaGreat

/-
  Fields, as the program finds them: as the document has them.
-/
namespace Go.Proofs.YteffpdofcgbokaaGreat
/-- the class whose own field n is, and which of its own; fs: each class's own fields -/
def Pk.owner (n:Int):List (List (Int × Int))→Int→Int→Int × Int
 | [],_,_=>(-1,0)
 | own :: r,c,f=>if f≤n∧n - f < (own.length:Int) then (c,n - f) else Pk.owner n r (c+1) (f+(own.length:Int))
def Pk.own (fs:List (List (Int × Int))) (c:Int):List (Int × Int):=if c < 0 then [] else fs.getD c.toNat []
def Pk.field (fs:List (List (Int × Int))) (n:Int):Int × (Int × Int) :=
 if (Pk.owner n fs 0 0).2 < 0 then (-1,(0,0)) else if ((Pk.own fs (Pk.owner n fs 0 0).1).length:Int)≤(Pk.owner n fs 0 0).2 then (-1,(0,0))
 else ((Pk.owner n fs 0 0).1,(Pk.own fs (Pk.owner n fs 0 0).1).getD (Pk.owner n fs 0 0).2.toNat (0,0))
/-- the fields of a class, with those above it, of the first k classes -/
def Pk.fieldsTo (T:List Int) (fs:List (List (Int × Int))) (c:Int):Nat→List (Int × Int)
 | 0=>[]
 | d+1=>Pk.fieldsTo T fs c d ++ (if Tr.within T c (d:Int)=true then fs.getD d [] else [])
def Pk.fieldsOf (T:List Int) (fs:List (List (Int × Int))) (c:Int):List (Int × Int):=Pk.fieldsTo T fs c fs.length

theorem within_iff {T:List Int} (hT:Tr.Ok T) {a b:Int} (ha:0≤a) (hl:a < (T.length:Int)) (hb:0≤b):Tr.within T a b=Tr.rbel T a b:=by
 refine Bool.eq_iff_iff.2 ?_
 rw [Tr.rbel_iff hT ha hl hb]
 unfold Tr.within Tr.At
 simp only [Bool.or_eq_true,beq_iff_eq]
 exact ⟨fun h=>h.imp Eq.symm id,fun h=>h.imp Eq.symm id⟩
theorem within_gt {T:List Int} (hT:Tr.Ok T) {a b:Int} (ha:0≤a) (hl:a < (T.length:Int)) (hb:a < b):Tr.within T a b=false:=by
 unfold Tr.within
 cases h:Tr.below T a b
 ·simp; omega
 ·have:=Tr.below_lt hT (by omega) hl h
  omega
theorem fieldsTo_le {T:List Int} (hT:Tr.Ok T) (cs:List Rd.Cls) {c:Int} (h0:0≤c) (hl:c < (T.length:Int)):∀ d:Nat,Pk.fieldsTo T (cs.map Rd.Cls.fields) c d=Rf.allTo T cs c d
 | 0=>rfl
 | d+1=>by
  rw [Pk.fieldsTo,Rf.allTo,fieldsTo_le hT cs h0 hl d,within_iff hT h0 hl (by omega)]
  congr 2
  rw [List.getD_eq_getElem?_getD,List.getD_eq_getElem?_getD,List.getElem?_map]
  cases cs[d]? <;> rfl
theorem fieldsTo_gt {T:List Int} (hT:Tr.Ok T) (fs:List (List (Int × Int))) {c:Nat} (hl:(c:Int) < (T.length:Int)):∀ d:Nat,Pk.fieldsTo T fs (c:Int) (c+1+d)=Pk.fieldsTo T fs (c:Int) (c+1)
 | 0=>rfl
 | d+1=>by
  rw [← Nat.add_assoc,Pk.fieldsTo,fieldsTo_gt hT fs hl d,within_gt hT (by omega) hl (by omega)]
  simp
theorem fieldsOf_eq {T:List Int} (hT:Tr.Ok T) (cs:List Rd.Cls) (hcs:cs.length=T.length) {c:Nat} (hl:c < T.length):Pk.fieldsOf T (cs.map Rd.Cls.fields) (c:Int)=Rf.all T cs c:=by
 unfold Pk.fieldsOf Rf.all
 rw [← fieldsTo_le hT cs (by omega) (by omega),List.length_map]
 have:=fieldsTo_gt hT (cs.map Rd.Cls.fields) (c:=c) (by omega) (cs.length - (c+1))
 rw [show c+1+(cs.length - (c+1))=cs.length by omega] at this
 exact this

theorem ownTo_at (c base:Int) (own:List (Int × Int)):∀ (k i:Nat),i < k→(Rf.ownTo c base own k).getD i ⟨0,0,(0,0)⟩=⟨c,base+(i:Int),own.getD i (0,0)⟩
 | 0,_,h=>by omega
 | k+1,i,h=>by
  rw [Rf.ownTo]
  by_cases hi:i < k
  ·rw [List.getD_eq_getElem?_getD,List.getElem?_append_left (by rw [ownTo_len]; exact hi),← List.getD_eq_getElem?_getD]
   exact ownTo_at c base own k i hi
  ·have:i=k:=by omega
   subst this
   rw [List.getD_eq_getElem?_getD,List.getElem?_append_right (by rw [ownTo_len]; omega),ownTo_len]
   simp

/-- the fields of the classes from c on, one behind the other, as the document has them -/
def Rf.fieldsAt (T:List Int) (cs:List Rd.Cls):Nat→Nat→List Rf.Fld
 | _,0=>[]
 | c,j+1=>Rf.ownOf T cs c ++ Rf.fieldsAt T cs (c+1) j
theorem fieldsAt_snoc (T:List Int) (cs:List Rd.Cls):∀ (j c:Nat),Rf.fieldsAt T cs c (j+1)=Rf.fieldsAt T cs c j ++ Rf.ownOf T cs (c+j)
 | 0,c=>by simp [Rf.fieldsAt]
 | j+1,c=>by
  rw [Rf.fieldsAt,fieldsAt_snoc T cs j (c+1),Rf.fieldsAt,List.append_assoc,show c+1+j=c+(j+1) by omega]
theorem fieldsTo_at (T:List Int) (cs:List Rd.Cls):∀ j:Nat,Rf.fieldsTo T cs j=Rf.fieldsAt T cs 7 j
 | 0=>rfl
 | j+1=>by rw [Rf.fieldsTo,fieldsTo_at T cs j,fieldsAt_snoc]
theorem owner_at (T:List Int) (cs:List Rd.Cls) (n:Nat):∀ (j c f:Nat),c+j=cs.length→f≤n→n - f < (Rf.fieldsAt T cs c j).length →
  ∃ q:Nat,c≤q∧q < cs.length∧∃ i:Nat,i < (cs.getD q ⟨0,[]⟩).fields.length∧Pk.owner (n:Int) ((cs.drop c).map Rd.Cls.fields) (c:Int) (f:Int)=((q:Int),(i:Int)) ∧
   ((Rf.fieldsAt T cs c j).getD (n - f) ⟨0,0,(0,0)⟩).owner=(q:Int)∧((Rf.fieldsAt T cs c j).getD (n - f) ⟨0,0,(0,0)⟩).t=(cs.getD q ⟨0,[]⟩).fields.getD i (0,0)
 | 0,c,f,hc,hf,h=>by simp [Rf.fieldsAt] at h
 | j+1,c,f,hc,hf,h=>by
  have hcl:c < cs.length:=by omega
  rw [List.drop_eq_getElem_cons hcl,List.map_cons,Pk.owner]
  have hg:cs.getD c ⟨0,[]⟩=cs[c]:=by rw [List.getD_eq_getElem?_getD,List.getElem?_eq_getElem hcl]; rfl
  have hol:(Rf.ownOf T cs c).length=cs[c].fields.length:=by rw [Rf.ownOf,ownTo_len,hg]
  rw [Rf.fieldsAt] at h ⊢
  by_cases hin:n - f < cs[c].fields.length
  ·refine ⟨c,Nat.le_refl _,hcl,n - f,by rw [hg]; exact hin,?_,?_,?_⟩
   ·rw [if_pos (by omega)]
    congr 1; omega
   ·rw [List.getD_eq_getElem?_getD,List.getElem?_append_left (by rw [hol]; exact hin),← List.getD_eq_getElem?_getD,Rf.ownOf,ownTo_at _ _ _ _ _ (by rw [hg]; exact hin)]
   ·rw [List.getD_eq_getElem?_getD,List.getElem?_append_left (by rw [hol]; exact hin),← List.getD_eq_getElem?_getD,Rf.ownOf,ownTo_at _ _ _ _ _ (by rw [hg]; exact hin)]
  ·rw [if_neg (by omega)]
   obtain ⟨q,h1,h2,i,h3,h4,h5,h6⟩:=owner_at T cs n j (c+1) (f+cs[c].fields.length) (by omega) (by omega) (by rw [List.length_append,hol] at h; omega)
   refine ⟨q,by omega,h2,i,h3,?_,?_,?_⟩
   ·rw [← h4]; push_cast; rfl
   ·rw [List.getD_eq_getElem?_getD,List.getElem?_append_right (by rw [hol]; omega),← List.getD_eq_getElem?_getD,hol,← h5]; congr 2; omega
   ·rw [List.getD_eq_getElem?_getD,List.getElem?_append_right (by rw [hol]; omega),← List.getD_eq_getElem?_getD,hol,← h6]; congr 2; omega

theorem owner_nil (n:Int) (r:List (List (Int × Int))) (f:Int):∀ (k:Nat) (c:Int),Pk.owner n (List.replicate k [] ++ r) c f=Pk.owner n r (c+(k:Int)) f
 | 0,c=>by simp
 | k+1,c=>by
  rw [List.replicate_succ,List.cons_append,Pk.owner,if_neg (by simp)]
  simp only [List.length_nil]
  rw [show f+((0:Nat):Int)=f by omega,owner_nil n r f k (c+1)]
  congr 1; omega

/-- the field with a number: the program's is the document's -/
theorem field_eq (T:List Int) (cs:List Rd.Cls) (h7:7≤cs.length) (hg:∀ i,i < 7→(cs.getD i ⟨0,[]⟩).fields=[]) (n:Nat) (hn:n < (Rf.fieldsTo T cs (cs.length - 7)).length) :
  Pk.field (cs.map Rd.Cls.fields) (n:Int)=(((Rf.fieldsTo T cs (cs.length - 7)).getD n ⟨0,0,(0,0)⟩).owner,((Rf.fieldsTo T cs (cs.length - 7)).getD n ⟨0,0,(0,0)⟩).t):=by
 rw [fieldsTo_at] at hn ⊢
 obtain ⟨q,h1,h2,i,h3,h4,h5,h6⟩:=owner_at T cs n (cs.length - 7) 7 0 (by omega) (by omega) (by simpa using hn)
 have e:cs.map Rd.Cls.fields=List.replicate 7 [] ++ (cs.drop 7).map Rd.Cls.fields:=by
  conv=>lhs; rw [← List.take_append_drop 7 cs,List.map_append]
  congr 1
  apply List.ext_getElem
  ·simp; omega
  ·intro i hi hi'
   have hi2:i < 7:=by simpa using hi'
   have:=hg i hi2
   rw [List.getD_eq_getElem?_getD,List.getElem?_eq_getElem (by omega)] at this
   rw [List.getElem_map,List.getElem_take,List.getElem_replicate]
   simpa using this
 have ho:Pk.owner (n:Int) (cs.map Rd.Cls.fields) 0 0=((q:Int),(i:Int)):=by
  rw [e,owner_nil]
  exact h4
 have hown:Pk.own (cs.map Rd.Cls.fields) (q:Int)=(cs.getD q ⟨0,[]⟩).fields:=by
  unfold Pk.own
  rw [if_neg (by omega),List.getD_eq_getElem?_getD,List.getElem?_map,List.getD_eq_getElem?_getD,Int.toNat_natCast]
  cases cs[q]? <;> rfl
 unfold Pk.field
 rw [ho]
 simp only
 rw [if_neg (by omega),hown,if_neg (by omega),Int.toNat_natCast]
 simp only [Nat.sub_zero] at h5 h6
 rw [h5,h6]
end Go.Proofs.YteffpdofcgbokaaGreat

/-
  Frames as they come up; the one pass over a method's code.
-/
namespace Go.Proofs.YteffpdofcgbokaaGreat
/-- a frame as they come up: lo locals, at most hi on the stack, each of them a type, each Raw the place of a New -/
def Ck.tyOk (T:List Int) (isN:Int→Prop) (t:Int × Int):Prop:=Tr.Arg T t.1 t.2∧(t.1=4→isN t.2)
structure Ck.Inv (T:List Int) (lo:Nat) (hi:Int) (isN:Int→Prop) (x:Ck.Fr):Prop where
 lo:x.locals.length=lo
 hi:(x.stack.length:Int)≤hi
 tl:∀ t∈x.locals,Ck.tyOk T isN t
 ts:∀ t∈x.stack,Ck.tyOk T isN t
theorem tyOk_top (T:List Int) (isN:Int→Prop):Ck.tyOk T isN (0,0):=⟨.inl ⟨rfl,rfl⟩,fun h=>absurd h (by decide)⟩
theorem turned_ok {T:List Int}{isN:Int→Prop}{a b:Int × Int}{l:List (Int × Int)} (hb:Ck.tyOk T isN b) (h:∀ t∈l,Ck.tyOk T isN t):∀ t∈Ck.turned a b l,Ck.tyOk T isN t:=by
 intro t ht
 unfold Ck.turned at ht
 obtain ⟨y,hy,rfl⟩:=List.mem_map.1 ht
 split
 ·exact hb
 ·exact h y hy
theorem getD_mem {α:Type}{l:List α}{i:Nat}{d:α} (h:i < l.length):l.getD i d∈l:=by
 rw [List.getD_eq_getElem?_getD,List.getElem?_eq_getElem h]
 exact List.getElem_mem h
theorem mem_set_of {α:Type}{l:List α}{i:Nat}{d t:α} (h:t∈l.set i d):t∈l∨t=d:=by
 rcases List.mem_or_eq_of_mem_set h with h | h
 ·exact .inl h
 ·exact .inr h
theorem rule_inv {T:List Int}{lo:Nat}{hi:Int}{isN:Int→Prop} (tk lv want:List (Int × Int)) (arg:Int→Int) (p op n:Int) (x y:Ck.Fr) (hx:Ck.Inv T lo hi isN x)
  (hlv:∀ t∈lv,Ck.tyOk T isN t) (hn:op=2→0≤n∧n < (lo:Int)) (hnew:op=15→Ck.tyOk T isN (4,p)) (hset:op=16→0≤n∧n < (T.length:Int))
  (h:Ck.rule hi (Ck.movedL T tk lv want arg p op n x)=some y):Ck.Inv T lo hi isN y:=by
 unfold Ck.rule at h
 cases hm:Ck.movedL T tk lv want arg p op n x with
 | none=>rw [hm] at h; cases h
 | some z =>
  rw [hm] at h
  simp only [Option.bind_some] at h
  by_cases hz:(z.stack.length:Int)≤hi
  ·rw [if_pos hz] at h
   obtain rfl:=Option.some.inj h
   suffices hh:z.locals.length=lo∧(∀ t∈z.locals,Ck.tyOk T isN t)∧(∀ t∈z.stack,Ck.tyOk T isN t) from ⟨hh.1,hz,hh.2.1,hh.2.2⟩
   have htk:∀ k,∀ t∈x.stack.take k,Ck.tyOk T isN t:=fun k t ht=>hx.ts t (List.mem_of_mem_take ht)
   unfold Ck.movedL at hm
   by_cases h2:op=2
   ·rw [if_pos h2] at hm
    split at hm
    ·cases hm
    ·obtain rfl:=Option.some.inj hm
     refine ⟨hx.lo,hx.tl,fun t ht=>?_⟩
     rcases List.mem_append.1 ht with ht | ht
     ·exact hx.ts t ht
     ·obtain rfl:=List.mem_singleton.1 ht
      have:=hn h2
      exact hx.tl _ (getD_mem (by have:=hx.lo; omega))
   rw [if_neg h2] at hm
   by_cases h3:op=3
   ·rw [if_pos h3] at hm
    split at hm
    ·cases hm
    ·rename_i hs
     obtain rfl:=Option.some.inj hm
     refine ⟨by simpa using hx.lo,fun t ht=>?_,fun t ht=>htk _ t ht⟩
     rcases mem_set_of ht with ht | rfl
     ·exact hx.tl t ht
     ·exact hx.ts _ (getD_mem (by omega))
   rw [if_neg h3] at hm
   by_cases h4:op=4
   ·rw [if_pos h4] at hm
    split at hm
    ·cases hm
    ·obtain rfl:=Option.some.inj hm
     exact ⟨hx.lo,hx.tl,fun t ht=>htk _ t ht⟩
   rw [if_neg h4] at hm
   by_cases h5:op=5
   ·rw [if_pos h5] at hm
    split at hm
    ·cases hm
    ·obtain rfl:=Option.some.inj hm
     refine ⟨hx.lo,hx.tl,fun t ht=>?_⟩
     rcases List.mem_append.1 ht with ht | ht
     ·exact hx.ts t ht
     ·exact hx.ts t (List.mem_of_mem_drop ht)
   rw [if_neg h5] at hm
   by_cases h6:op=6
   ·rw [if_pos h6] at hm
    split at hm
    ·cases hm
    ·rename_i hs
     obtain rfl:=Option.some.inj hm
     refine ⟨hx.lo,hx.tl,fun t ht=>?_⟩
     rcases List.mem_append.1 ht with ht | ht
     ·exact htk _ t ht
     ·simp only [List.mem_cons,List.not_mem_nil,or_false] at ht
      rcases ht with rfl | rfl
      ·exact hx.ts _ (getD_mem (by omega))
      ·exact hx.ts _ (getD_mem (by omega))
   rw [if_neg h6] at hm
   by_cases h15:op=15
   ·rw [if_pos h15] at hm
    obtain rfl:=Option.some.inj hm
    refine ⟨by rw [turned_len]; exact hx.lo,turned_ok (tyOk_top T isN) hx.tl,fun t ht=>?_⟩
    rcases List.mem_append.1 ht with ht | ht
    ·exact turned_ok (tyOk_top T isN) hx.ts t ht
    ·obtain rfl:=List.mem_singleton.1 ht
     exact hnew h15
   rw [if_neg h15] at hm
   by_cases h16:op=16
   ·rw [if_pos h16] at hm
    have h3n:Ck.tyOk T isN (3,n):=⟨.inr (.inr (.inr (.inl ⟨rfl,hset h16⟩))),fun h=>absurd h (by simp)⟩
    unfold Ck.set at hm
    split at hm
    ·cases hm
    ·split at hm
     ·cases hm
     ·split at hm
      ·cases hm
      ·split at hm
       ·cases hm
       ·obtain rfl:=Option.some.inj hm
        exact ⟨by rw [turned_len]; exact hx.lo,turned_ok h3n hx.tl,turned_ok h3n (htk _)⟩
   rw [if_neg h16] at hm
   split at hm
   ·cases hm
   ·obtain rfl:=Option.some.inj hm
    refine ⟨hx.lo,hx.tl,fun t ht=>?_⟩
    rcases List.mem_append.1 ht with ht | ht
    ·exact htk _ t ht
    ·exact hlv t ht
  ·rw [if_neg hz] at h; cases h

/-- the state behind the instruction at p, o ahead of it; mp: the map at a place, rl: its rule, go: does it go on -/
def Ck.step (mp:Nat→Option Ck.Fr) (rl:Nat→Ck.Fr→Option Ck.Fr) (go:Nat→Bool) (p:Nat) (o:Option Ck.Fr):Option Ck.Fr :=
 ((mp p).or o).bind fun x=>(rl p x).bind fun z=>if go p=true then some z else none
/-- the frame ahead of the instruction at q -/
def Ck.ahead (mp:Nat→Option Ck.Fr) (rl:Nat→Ck.Fr→Option Ck.Fr) (go:Nat→Bool) (q:Nat):List Nat→Option Ck.Fr→Option Ck.Fr
 | [],o=>o
 | p :: r,o=>if q < p then o else if p=q then (mp p).or o else Ck.ahead mp rl go q r (Ck.step mp rl go p o)
/-- what is first wrong, of the places of a list -/
def Ck.lookAll (ah:Nat→Option Ck.Fr) (lk:Nat→Ck.Fr→Int):List Nat→Int × Int
 | []=>(0,0)
 | p :: r=>match ah p with
  | none=>Ck.lookAll ah lk r
  | some x=>if lk p x ≠ 0 then (lk p x,(p:Int)) else Ck.lookAll ah lk r
/-- in one pass -/
def Ck.pass (mp:Nat→Option Ck.Fr) (rl:Nat→Ck.Fr→Option Ck.Fr) (go:Nat→Bool) (lk:Nat→Ck.Fr→Int):List Nat→Option Ck.Fr→Int × Int
 | [],_=>(0,0)
 | p :: r,o=>match (mp p).or o with
  | none=>Ck.pass mp rl go lk r none
  | some x=>if lk p x ≠ 0 then (lk p x,(p:Int)) else Ck.pass mp rl go lk r (Ck.step mp rl go p o)

theorem ahead_app (mp:Nat→Option Ck.Fr) (rl:Nat→Ck.Fr→Option Ck.Fr) (go:Nat→Bool) (q:Nat) (r:List Nat):∀ (d:List Nat) (o:Option Ck.Fr),(∀ p∈d,p < q) →
  Ck.ahead mp rl go q (d ++ q :: r) o=(mp q).or (d.foldl (fun o p=>Ck.step mp rl go p o) o)
 | [],o,_=>by simp [Ck.ahead]
 | p :: d,o,h=>by
  have hp:=h p (by simp)
  rw [List.cons_append,Ck.ahead,if_neg (by omega),if_neg (by omega),ahead_app mp rl go q r d _ (fun x hx=>h x (by simp [hx]))]
  rfl
theorem lookAll_pass (mp:Nat→Option Ck.Fr) (rl:Nat→Ck.Fr→Option Ck.Fr) (go:Nat→Bool) (lk:Nat→Ck.Fr→Int) (x0:Option Ck.Fr):∀ (r d:List Nat),(d ++ r).Pairwise (· < ·) →
  Ck.lookAll (fun q=>Ck.ahead mp rl go q (d ++ r) x0) lk r=Ck.pass mp rl go lk r (d.foldl (fun o p=>Ck.step mp rl go p o) x0)
 | [],d,_=>by simp [Ck.lookAll,Ck.pass]
 | p :: r,d,h=>by
  have hd:∀ q∈d,q < p:=fun q hq=>(List.pairwise_append.1 h).2.2 q hq p (by simp)
  have ih:=lookAll_pass mp rl go lk x0 r (d ++ [p]) (by simpa using h)
  rw [List.append_assoc,List.singleton_append,List.foldl_append] at ih
  simp only [List.foldl_cons,List.foldl_nil] at ih
  rw [Ck.lookAll,Ck.pass,ahead_app mp rl go p r d x0 hd,ih]
  generalize List.foldl (fun o p=>Ck.step mp rl go p o) x0 d=o
  cases hh:(mp p).or o with
  | none =>
   have:Ck.step mp rl go p o=none:=by unfold Ck.step; rw [hh]; rfl
   simp only [this]
  | some x=>rfl
end Go.Proofs.YteffpdofcgbokaaGreat
