/-
  The walks over the bench's methods: take, leave.
-/
import Derived.Deep.RegionHeld3
import Derived.Test.YteffpdofcgbokaaGreatPk13

namespace Go.Proofs.YteffpdofcgbokaaGreat
open Go.RowKit

set_option maxRecDepth 100000 in
set_option maxHeartbeats 1000000 in
theorem ptop_any (w:World):Calls Tryz.prog 117 #[] w fun e w'=>e=.returned (.agg #[.int .i64 0,.int .i64 0])∧Below w.heap.size w w':=by
 go_enter Tryz.func117,Tryz.ntmps117
 go_wp2
 refine bodyPost_ret (v:=.agg #[.int .i64 0,.int .i64 0]) (by simp [results,Tryz.results117,go_sem]) rfl ?_
 exact ⟨rfl,by repeat (first | refine Below.setCell ?_ (by simp) _ | refine Below.alloc ?_ (by simp) _ | exact Below.refl _ _)⟩

set_option maxRecDepth 100000 in
set_option maxHeartbeats 8000000 in
theorem take_any (w:World) (B k:Nat) (c:BnC) (v:FrV) (b:Pk.B) (h:BnAt w B k c v b) :
  Calls Tryz.prog 168 #[.pointer (some ⟨k,0,none⟩)] w fun e w'=>e=.returned (.agg #[.int .i64 (Pk.take b).1.1,.int .i64 (Pk.take b).1.2])∧∃ v',BnAt w' B k c v' (Pk.take b).2∧Bn k w v w' v':=by
 have hA:=h.alloc (.cells #[.int .i64 0,.int .i64 0] 48)
 have GA:=(Bn.refl k w v).alloc (.cells #[.int .i64 0,.int .i64 0] 48)
 have hkl:=h.k_lt
 have hBl:=h.B_le
 have hnew:=h.new (Nat.le_refl _)
 have RA:=alloc_blk w (.cells #[.int .i64 0,.int .i64 0] 48)
 obtain ⟨la,ln,lc,sa,sn,sc⟩:=v
 obtain ⟨lo,st,br⟩:=b
 obtain ⟨xa,xc,hsh⟩:=own_shape h.st
 simp only [Value.slice.injEq] at hsh
 obtain ⟨rfl,hn1,rfl⟩:=hsh
 subst hn1
 have hb:=h.blk
 have c3:=blk_cell hb 3
 have c5:=blk_cell hb 5
 have f5:=blk_free hb 5
 have f3:=blk_free hb 3
 simp at c3 c5
 have hst:=h.st
 have hsl:=h.sl
 simp only at hst hsl
 by_cases hz:st.length=0
 ·have e:Pk.take ⟨lo,st,br⟩=((0,0),⟨lo,st,true⟩):=by unfold Pk.take; rw [if_pos hz]
  rw [e]
  have hz':(st.length:Int)=0:=by omega
  have hA2:=(h.brk).alloc (.cells #[.int .i64 0,.int .i64 0] 48)
  have GA2:=((Bn.refl k w ⟨la,ln,lc,sa,st.length,sc⟩).brk).alloc (.cells #[.int .i64 0,.int .i64 0] 48)
  have RA2:=alloc_blk (w.setCell ⟨k,5,none⟩ (.bool true)) (.cells #[.int .i64 0,.int .i64 0] 48)
  have hsz:(w.setCell ⟨k,5,none⟩ (.bool true)).heap.size=w.heap.size:=by simp [World.setCell]
  rw [hsz] at RA2
  clear e hst hb hsz
  go_enter Tryz.func168,Tryz.ntmps168
  go_wp2_with fail
  refine (ptop_any _).mono ?_
  rintro e w1 ⟨rfl,hb1⟩
  have hA3:=hA2.below hb1
  have GA3:=GA2.trans (Bn.of_below _ hb1)
  have R3:=stay hb1 RA2
  have r0:=blk_cell R3 0
  have r1:=blk_cell R3 1
  have q0:=blk_free R3 0
  have q1:=blk_free R3 1
  have lr:=lt_of_block R3
  have hfr:=GA3.bel.size
  simp at r0 r1
  clear hb1 hA hA2 GA GA2 RA RA2
  have hfree:FrV.free ⟨la,ln,lc,sa,st.length,sc⟩ k w.heap.size:=hnew
  go_wp2
  refine bodyPost_ret (v:=.agg #[.int .i64 0,.int .i64 0]) (by simp [results,Tryz.results168,go_sem,r0,r1]) rfl ?_
  exact ⟨rfl,_,(hA3.setF hfree hBl _).setF hfree hBl _,(GA3.setF (Nat.le_refl _) _).setF (Nat.le_refl _) _⟩
 ·obtain ⟨m,hm⟩:∃ m,st.length=m+1:=⟨st.length - 1,by omega⟩
  have e:Pk.take ⟨lo,st,br⟩=(st.getD m (0,0),⟨lo,st.take m,br⟩):=by unfold Pk.take; rw [if_neg hz]; simp only [hm,Nat.add_sub_cancel]
  rw [e]
  obtain ⟨g,hg,hglt,_,hcell⟩:=own_some hst (by omega)
  obtain ⟨t1,t2,t3⟩:=tcells_at st m (by omega)
  have y0:=(hcell (m * 2) (by omega)).trans t1
  have y1:=(hcell (m * 2+1) (by omega)).trans t2
  have e2:st.getD m (0,0)=st[m]:=by simp [List.getD_eq_getElem?_getD,hm]
  rw [e2]
  generalize st[m]=t at *
  obtain ⟨t1',t2'⟩:=t
  simp only at y0 y1 ⊢
  subst hg
  have hnk:=h.nk.2
  have hns:=h.ns
  simp only [hm] at hnk hns
  have hS:=h.setS (sa:=some ⟨g,0,none⟩) (sn:=m) (sc:=sc) (tys_take hst (by omega)) (by simp; omega) hnk hns
  have GS:=(Bn.refl k w ⟨la,ln,lc,some ⟨g,0,none⟩,st.length,sc⟩).setK (i:=3) (v2:=⟨la,ln,lc,some ⟨g,0,none⟩,m,sc⟩) (.slice (some ⟨g,0,none⟩) m sc) rfl rfl
  obtain ⟨-,hc1,hc2⟩:=(TyR.of_tys hst).cap
  simp only at hc1 hc2
  have kb:(m:Int) < (st.length:Int):=by omega
  have kw:IntKind.i64.wrap ((st.length:Int) - 1)=(m:Int):=by rw [wrap_in _ (by omega) (by unfold maxLen at *; omega)]; omega
  have kc:(m:Int)≤(sc:Int):=by omega
  have km:m≤sc:=by omega
  clear e e2 hA GA RA hcell t1 t2 t3 hnk hns hm
  go_enter Tryz.func168,Tryz.ntmps168
  go_wp2
  refine bodyPost_ret (v:=.agg #[.int .i64 t1',.int .i64 t2']) (by simp [results,Tryz.results168,go_sem]) rfl ?_
  exact ⟨rfl,⟨la,ln,lc,some ⟨g,0,none⟩,m,sc⟩,(hS.alloc _).alloc _,(GS.alloc _).alloc _⟩

set_option maxRecDepth 100000 in
set_option maxHeartbeats 8000000 in
theorem leave_any (w:World) (B k:Nat) (c:BnC) (v:FrV) (b:Pk.B) (t1 t2:Int) (h:BnAt w B k c v b) (hsl:b.st.length < 5000) :
  Calls Tryz.prog 169 #[.pointer (some ⟨k,0,none⟩),.agg #[.int .i64 t1,.int .i64 t2]] w fun e w'=>e=.returned (.tuple #[])∧∃ v',BnAt w' B k c v' (Pk.leave c.hi (t1,t2) b)∧Bn k w v w' v':=by
 have hA:=h.alloc (.cells #[.int .i64 t1,.int .i64 t2] 48)
 have GA:=(Bn.refl k w v).alloc (.cells #[.int .i64 t1,.int .i64 t2] 48)
 have hkl:=h.k_lt
 have hBl:=h.B_le
 obtain ⟨la,ln,lc,sa,sn,sc⟩:=v
 obtain ⟨lo,st,br⟩:=b
 obtain ⟨xa,xc,hsh⟩:=own_shape h.st
 simp only [Value.slice.injEq] at hsh
 obtain ⟨rfl,hn1,rfl⟩:=hsh
 subst hn1
 have c3:=blk_cell hA.blk 3
 have c4:=blk_cell hA.blk 4
 have c5:=blk_cell hA.blk 5
 have f5:=blk_free hA.blk 5
 have f3:=blk_free hA.blk 3
 have PA:=alloc_blk w (.cells #[.int .i64 t1,.int .i64 t2] 48)
 have p0:=blk_cell PA 0
 have p1:=blk_cell PA 1
 simp at c3 c4 c5 p0 p1
 obtain ⟨i0,hi,hz0,hz1,hz2⟩:=info_parts Tryz.infoType
 simp only at hsl
 have hst2:(w.alloc (.cells #[.int .i64 t1,.int .i64 t2] 48)).ownsRow B 48 2 (.slice sa st.length sc) st.length (tcells st):=hA.st
 have hnk2:=h.nk.2
 unfold Pk.leave
 by_cases hz:c.hi≤(st.length:Int)
 ·rw [if_pos hz]
  go_enter Tryz.func169,Tryz.ntmps169
  go_wp2
  go_region_held3 (fun w'=>w'.cell? ⟨k,3,none⟩=some (.slice sa st.length sc)∧w'.cell? ⟨k,4,none⟩=some (.int .i64 c.hi)) (exact ⟨c3,c4⟩) (fail)
  go_wp2
  refine bodyPost_ret (v:=.tuple #[]) (by simp [results,Tryz.results169,go_sem]) rfl ?_
  exact ⟨rfl,_,(h.brk.alloc _).drew,(((Bn.refl k w ⟨la,ln,lc,sa,st.length,sc⟩).brk).alloc _).drew⟩
 ·rw [if_neg hz]
  have hZc:∀ j u,[Value.int .i64 t1,.int .i64 t2][j]?=some u→((w.alloc (.cells #[.int .i64 t1,.int .i64 t2] 48)).alloc (.cells #[.int .i64 t1,.int .i64 t2] 48)).drew.drew.cell? ((⟨w.heap.size+1,0,none⟩:Addr).add j)=some u:=by
   intro j u hu
   exact cells_new (w.alloc (.cells #[.int .i64 t1,.int .i64 t2] 48)) [.int .i64 t1,.int .i64 t2] 48 (w.heap.size+1) (by simp) j u hu
  have hfin:∀ va' vc' w2,w2.ownsRow B 48 2 (.slice va' (st.length+1) vc') (st.length+1) (tcells st ++ [.int .i64 t1,.int .i64 t2])→World.grownBy ((w.alloc (.cells #[.int .i64 t1,.int .i64 t2] 48)).alloc (.cells #[.int .i64 t1,.int .i64 t2] 48)).drew.drew w2 (Value.slice sa st.length sc).ownBlock →
    ((Value.slice va' (st.length+1) vc').ownBlock=(Value.slice sa st.length sc).ownBlock∨(Value.slice va' (st.length+1) vc').ownBlock=some ((w.alloc (.cells #[.int .i64 t1,.int .i64 t2] 48)).alloc (.cells #[.int .i64 t1,.int .i64 t2] 48)).drew.drew.heap.size)→∃ v',BnAt (w2.setCell ⟨k,3,none⟩ (.slice va' (st.length+1) vc')) B k c v' ⟨lo,st ++ [(t1,t2)],br⟩∧Bn k w ⟨la,ln,lc,sa,st.length,sc⟩ (w2.setCell ⟨k,3,none⟩ (.slice va' (st.length+1) vc')) v':=by
   intro va' vc' w2 hown2 hgrow hat
   have hG:=((hA.alloc (.cells #[.int .i64 t1,.int .i64 t2] 48)).drew.drew).grown (st:=st ++ [(t1,t2)]) hgrow (by unfold TysAt; rw [tcells_app,List.length_append]; exact hown2) (by simp; omega) hat
   exact ⟨_,hG.1,(((GA.alloc (.cells #[.int .i64 t1,.int .i64 t2] 48)).drew.drew).trans hG.2)⟩
  go_enter Tryz.func169,Tryz.ntmps169
  go_wp2
  go_region_held3 (fun w'=>w'.cell? ⟨k,3,none⟩=some (.slice sa st.length sc)∧w'.cell? ⟨k,4,none⟩=some (.int .i64 c.hi)) (exact ⟨c3,c4⟩) (fail)
  go_wp2
  -- MOVES
  refine wp_region_held_drew (S:=fun _=>True) (by kernel_rfl) trivial (fun hHeld=>?_)
  refine wpAnyH_take (i:=0) (oi:=⟨_,_,_,_,_,_⟩) (v:=.pointer (some ⟨k,0,none⟩)) rfl (by kernel_rfl) (by kernel_rfl) (by kernel_rfl) (fun _ _ _ h=>h) (Or.inl ⟨by rfl,?_⟩) hHeld ?_
  ·intro w' hSw
   go_simp
  try simp only [Act.put,List.setIfInBounds_toArray,List.set_cons_zero,List.set_cons_succ]
  refine wpAnyH_take (i:=1) (oi:=⟨_,_,_,_,_,_⟩) (v:=.pointer (some ⟨k,0,none⟩)) rfl (by kernel_rfl) (by kernel_rfl) (by kernel_rfl) (fun _ _ _ h=>h) (Or.inl ⟨by rfl,?_⟩) hHeld ?_
  ·intro w' hSw
   go_simp
  try simp only [Act.put,List.setIfInBounds_toArray,List.set_cons_zero,List.set_cons_succ]
  refine wpAnyH_take (i:=2) (oi:=⟨_,_,_,_,_,_⟩) (v:=.pointer (some ⟨k,0,none⟩)) rfl (by kernel_rfl) (by kernel_rfl) (by kernel_rfl) (fun _ _ _ h=>h) (Or.inl ⟨by rfl,?_⟩) hHeld ?_
  ·intro w' hSw
   go_simp
  try simp only [Act.put,List.setIfInBounds_toArray,List.set_cons_zero,List.set_cons_succ]
  refine wpAnyH_take (i:=3) (oi:=⟨_,_,_,_,_,_⟩) (v:=.pointer (some ⟨k,3,none⟩)) rfl (by kernel_rfl) (by kernel_rfl) (by kernel_rfl) (fun _ _ _ h=>h) (Or.inl ⟨by rfl,?_⟩) hHeld ?_
  ·intro w' hSw
   go_simp
  try simp only [Act.put,List.setIfInBounds_toArray,List.set_cons_zero,List.set_cons_succ]
  refine wpAnyH_ready (rs:=[4,5]) (by kernel_rfl) (by simp) ?_
  refine AllReadyH.cons (o:=⟨_,_,_,_,_,_⟩) rfl (fun K hK=>?_) (AllReadyH.cons (o:=⟨_,_,_,_,_,_⟩) rfl (fun K hK=>?_) AllReadyH.nil)
  ·go_simp
   refine hK.out _ _ trivial (fun hHeld=>?_)
   clear hK K
   try simp only [Act.put,List.setIfInBounds_toArray,List.set_cons_zero,List.set_cons_succ]
   refine wpAnyH_ready (rs:=[5]) (by kernel_rfl) (by simp) ?_
   refine AllReadyH.cons (o:=⟨_,_,_,_,_,_⟩) rfl (fun K hK=>?_) AllReadyH.nil
   go_simp
   refine hK.out _ _ trivial (fun hHeld=>?_)
   clear hK K
   try simp only [Act.put,List.setIfInBounds_toArray,List.set_cons_zero,List.set_cons_succ]
   refine wpAnyH_ready (rs:=[6]) (by kernel_rfl) (by simp) ?_
   refine AllReadyH.cons (o:=⟨_,_,_,_,_,_⟩) rfl (fun K hK=>?_) AllReadyH.nil
   go_simp
   refine hK.out _ _ trivial (fun hHeld=>?_)
   clear hK K
   try simp only [Act.put,List.setIfInBounds_toArray,List.set_cons_zero,List.set_cons_succ]
   refine wpAnyH_ready (rs:=[7]) (by kernel_rfl) (by simp) ?_
   refine AllReadyH.cons (o:=⟨_,_,_,_,_,_⟩) rfl (fun K hK=>?_) AllReadyH.nil
   refine step_append_own_at (by rfl) _ _ _ (by rfl) B 48 i0 _ 2 16 Tryz.underlying46 hi hz0 hz1 hz2 rfl (by omega) _ _ _ (by rfl) ((hst2.alloc (.cells #[.int .i64 t1,.int .i64 t2] 48)).drew.drew) ⟨w.heap.size+1,0,none⟩ 1 1 [.int .i64 t1,.int .i64 t2] (by rfl) (by rfl) hZc (by simp [Value.oneCell']) (by unfold maxLen; omega) (by omega) (by simp; omega) ?_
   intro v' w2 hown2 hgrow hat
   obtain ⟨va',vc',rfl⟩:=own_shape hown2
   have hb2:=(hgrow.block k (by simp; omega) (fun e=>hnk2 e.symm)).trans (stay1 hA.blk (.cells #[.int .i64 t1,.int .i64 t2] 48))
   have c2:=blk_cell hb2 3
   have f2:=blk_free hb2 3
   have l2:=lt_of_block hb2
   simp at c2
   refine hK.out _ _ trivial (fun hHeld=>?_)
   clear hK K
   try simp only [Act.put,List.setIfInBounds_toArray,List.set_cons_zero,List.set_cons_succ]
   refine wpAnyH_take (i:=8) (oi:=⟨_,_,_,_,_,_⟩) (v:=.pointer (some ⟨k,0,none⟩)) rfl (by kernel_rfl) (by kernel_rfl) (by kernel_rfl) (fun _ _ _ h=>h) (Or.inl ⟨by rfl,?_⟩) hHeld ?_
   ·intro w' hSw
    go_simp
   try simp only [Act.put,List.setIfInBounds_toArray,List.set_cons_zero,List.set_cons_succ]
   refine wpAnyH_take (i:=9) (oi:=⟨_,_,_,_,_,_⟩) (v:=.pointer (some ⟨k,3,none⟩)) rfl (by kernel_rfl) (by kernel_rfl) (by kernel_rfl) (fun _ _ _ h=>h) (Or.inl ⟨by rfl,?_⟩) hHeld ?_
   ·intro w' hSw
    go_simp
   try simp only [Act.put,List.setIfInBounds_toArray,List.set_cons_zero,List.set_cons_succ]
   refine wpAnyH_ready (rs:=[10]) (by kernel_rfl) (by simp) ?_
   refine AllReadyH.cons (o:=⟨_,_,_,_,_,_⟩) rfl (fun K hK=>?_) AllReadyH.nil
   go_simp
   refine hK.out _ _ trivial (fun hHeld=>?_)
   clear hK K
   try simp only [Act.put,List.setIfInBounds_toArray,List.set_cons_zero,List.set_cons_succ]
   refine wpAnyH_done (by kernel_rfl) ?_ _
   go_wp2
   go_end0
   exact ⟨rfl,hfin _ _ _ hown2 hgrow hat⟩
  ·go_simp
   refine hK.out _ _ trivial (fun hHeld=>?_)
   clear hK K
   try simp only [Act.put,List.setIfInBounds_toArray,List.set_cons_zero,List.set_cons_succ]
   refine wpAnyH_ready (rs:=[4,6]) (by kernel_rfl) (by simp) ?_
   refine AllReadyH.cons (o:=⟨_,_,_,_,_,_⟩) rfl (fun K hK=>?_) (AllReadyH.cons (o:=⟨_,_,_,_,_,_⟩) rfl (fun K hK=>?_) AllReadyH.nil)
   ·go_simp
    refine hK.out _ _ trivial (fun hHeld=>?_)
    clear hK K
    try simp only [Act.put,List.setIfInBounds_toArray,List.set_cons_zero,List.set_cons_succ]
    refine wpAnyH_ready (rs:=[6]) (by kernel_rfl) (by simp) ?_
    refine AllReadyH.cons (o:=⟨_,_,_,_,_,_⟩) rfl (fun K hK=>?_) AllReadyH.nil
    go_simp
    refine hK.out _ _ trivial (fun hHeld=>?_)
    clear hK K
    try simp only [Act.put,List.setIfInBounds_toArray,List.set_cons_zero,List.set_cons_succ]
    refine wpAnyH_ready (rs:=[7]) (by kernel_rfl) (by simp) ?_
    refine AllReadyH.cons (o:=⟨_,_,_,_,_,_⟩) rfl (fun K hK=>?_) AllReadyH.nil
    refine step_append_own_at (by rfl) _ _ _ (by rfl) B 48 i0 _ 2 16 Tryz.underlying46 hi hz0 hz1 hz2 rfl (by omega) _ _ _ (by rfl) ((hst2.alloc (.cells #[.int .i64 t1,.int .i64 t2] 48)).drew.drew) ⟨w.heap.size+1,0,none⟩ 1 1 [.int .i64 t1,.int .i64 t2] (by rfl) (by rfl) hZc (by simp [Value.oneCell']) (by unfold maxLen; omega) (by omega) (by simp; omega) ?_
    intro v' w2 hown2 hgrow hat
    obtain ⟨va',vc',rfl⟩:=own_shape hown2
    have hb2:=(hgrow.block k (by simp; omega) (fun e=>hnk2 e.symm)).trans (stay1 hA.blk (.cells #[.int .i64 t1,.int .i64 t2] 48))
    have c2:=blk_cell hb2 3
    have f2:=blk_free hb2 3
    have l2:=lt_of_block hb2
    simp at c2
    refine hK.out _ _ trivial (fun hHeld=>?_)
    clear hK K
    try simp only [Act.put,List.setIfInBounds_toArray,List.set_cons_zero,List.set_cons_succ]
    refine wpAnyH_take (i:=8) (oi:=⟨_,_,_,_,_,_⟩) (v:=.pointer (some ⟨k,0,none⟩)) rfl (by kernel_rfl) (by kernel_rfl) (by kernel_rfl) (fun _ _ _ h=>h) (Or.inl ⟨by rfl,?_⟩) hHeld ?_
    ·intro w' hSw
     go_simp
    try simp only [Act.put,List.setIfInBounds_toArray,List.set_cons_zero,List.set_cons_succ]
    refine wpAnyH_take (i:=9) (oi:=⟨_,_,_,_,_,_⟩) (v:=.pointer (some ⟨k,3,none⟩)) rfl (by kernel_rfl) (by kernel_rfl) (by kernel_rfl) (fun _ _ _ h=>h) (Or.inl ⟨by rfl,?_⟩) hHeld ?_
    ·intro w' hSw
     go_simp
    try simp only [Act.put,List.setIfInBounds_toArray,List.set_cons_zero,List.set_cons_succ]
    refine wpAnyH_ready (rs:=[10]) (by kernel_rfl) (by simp) ?_
    refine AllReadyH.cons (o:=⟨_,_,_,_,_,_⟩) rfl (fun K hK=>?_) AllReadyH.nil
    go_simp
    refine hK.out _ _ trivial (fun hHeld=>?_)
    clear hK K
    try simp only [Act.put,List.setIfInBounds_toArray,List.set_cons_zero,List.set_cons_succ]
    refine wpAnyH_done (by kernel_rfl) ?_ _
    go_wp2
    go_end0
    exact ⟨rfl,hfin _ _ _ hown2 hgrow hat⟩
   ·go_simp
    refine hK.out _ _ trivial (fun hHeld=>?_)
    clear hK K
    try simp only [Act.put,List.setIfInBounds_toArray,List.set_cons_zero,List.set_cons_succ]
    refine wpAnyH_ready (rs:=[4]) (by kernel_rfl) (by simp) ?_
    refine AllReadyH.cons (o:=⟨_,_,_,_,_,_⟩) rfl (fun K hK=>?_) AllReadyH.nil
    go_simp
    refine hK.out _ _ trivial (fun hHeld=>?_)
    clear hK K
    try simp only [Act.put,List.setIfInBounds_toArray,List.set_cons_zero,List.set_cons_succ]
    refine wpAnyH_ready (rs:=[7]) (by kernel_rfl) (by simp) ?_
    refine AllReadyH.cons (o:=⟨_,_,_,_,_,_⟩) rfl (fun K hK=>?_) AllReadyH.nil
    refine step_append_own_at (by rfl) _ _ _ (by rfl) B 48 i0 _ 2 16 Tryz.underlying46 hi hz0 hz1 hz2 rfl (by omega) _ _ _ (by rfl) ((hst2.alloc (.cells #[.int .i64 t1,.int .i64 t2] 48)).drew.drew) ⟨w.heap.size+1,0,none⟩ 1 1 [.int .i64 t1,.int .i64 t2] (by rfl) (by rfl) hZc (by simp [Value.oneCell']) (by unfold maxLen; omega) (by omega) (by simp; omega) ?_
    intro v' w2 hown2 hgrow hat
    obtain ⟨va',vc',rfl⟩:=own_shape hown2
    have hb2:=(hgrow.block k (by simp; omega) (fun e=>hnk2 e.symm)).trans (stay1 hA.blk (.cells #[.int .i64 t1,.int .i64 t2] 48))
    have c2:=blk_cell hb2 3
    have f2:=blk_free hb2 3
    have l2:=lt_of_block hb2
    simp at c2
    refine hK.out _ _ trivial (fun hHeld=>?_)
    clear hK K
    try simp only [Act.put,List.setIfInBounds_toArray,List.set_cons_zero,List.set_cons_succ]
    refine wpAnyH_take (i:=8) (oi:=⟨_,_,_,_,_,_⟩) (v:=.pointer (some ⟨k,0,none⟩)) rfl (by kernel_rfl) (by kernel_rfl) (by kernel_rfl) (fun _ _ _ h=>h) (Or.inl ⟨by rfl,?_⟩) hHeld ?_
    ·intro w' hSw
     go_simp
    try simp only [Act.put,List.setIfInBounds_toArray,List.set_cons_zero,List.set_cons_succ]
    refine wpAnyH_take (i:=9) (oi:=⟨_,_,_,_,_,_⟩) (v:=.pointer (some ⟨k,3,none⟩)) rfl (by kernel_rfl) (by kernel_rfl) (by kernel_rfl) (fun _ _ _ h=>h) (Or.inl ⟨by rfl,?_⟩) hHeld ?_
    ·intro w' hSw
     go_simp
    try simp only [Act.put,List.setIfInBounds_toArray,List.set_cons_zero,List.set_cons_succ]
    refine wpAnyH_ready (rs:=[10]) (by kernel_rfl) (by simp) ?_
    refine AllReadyH.cons (o:=⟨_,_,_,_,_,_⟩) rfl (fun K hK=>?_) AllReadyH.nil
    go_simp
    refine hK.out _ _ trivial (fun hHeld=>?_)
    clear hK K
    try simp only [Act.put,List.setIfInBounds_toArray,List.set_cons_zero,List.set_cons_succ]
    refine wpAnyH_done (by kernel_rfl) ?_ _
    go_wp2
    go_end0
    exact ⟨rfl,hfin _ _ _ hown2 hgrow hat⟩
  -- END
end Go.Proofs.YteffpdofcgbokaaGreat

/-
  The walks over the bench's methods: takeAll, leaveAll, load.
-/
namespace Go.Proofs.YteffpdofcgbokaaGreat
open Go.RowKit

/-- a list that is only read, in no block of the bench -/
def TyF (w:World) (k:Nat) (v:FrV) (a:Option Addr) (n cp:Nat) (l:List (Int × Int)):Prop:=TyR w (.slice a n cp) l∧∀ g o,a=some ⟨g,o,none⟩→v.free k g
theorem TyF.bn {w w':World}{k n cp:Nat}{v v':FrV}{a:Option Addr}{l:List (Int × Int)} (h:TyF w k v a n cp l) (hb:Bn k w v w' v'):TyF w' k v' a n cp l:=by
 obtain ⟨h1 | ⟨g,o,c,hv,hg,h1,h2,h3⟩,hf⟩:=h
 ·refine ⟨.inl h1,fun g o e=>?_⟩
  have:=h1.1
  simp only [Value.slice.injEq] at this
  rw [this.1] at e; cases e
 ·simp only [Value.slice.injEq] at hv
  obtain ⟨rfl,rfl,rfl⟩:=hv
  have hfr:=hf g o rfl
  obtain ⟨e1,e2⟩:=hb.blk g hg hfr
  refine ⟨.inr ⟨g,o,cp,rfl,Nat.lt_of_lt_of_le hg hb.bel.size,h1,h2,fun j x hx=>?_⟩,fun g' o' e=>?_⟩
  ·rw [World.cell?_of_block (a:=⟨g,o+j,none⟩) e1]; exact h3 j x hx
  ·simp only [Option.some.injEq,Addr.mk.injEq,and_true] at e
   rw [← e.1]; exact e2
theorem takeTo_len (T:List Int) (l:List (Int × Int)):∀ (k:Nat) (b:Pk.B),(Pk.takeTo T l k b).st.length≤b.st.length
 | 0,b=>Nat.le_refl _
 | k+1,b=>by
  unfold Pk.takeTo
  refine Nat.le_trans (takeTo_len T l k _) ?_
  rw [(fit_lo _ _ _ _).2.1]
  unfold Pk.take
  split <;> simp

set_option maxRecDepth 100000 in
set_option maxHeartbeats 8000000 in
theorem takeAll_any (w:World) (B k:Nat) (c:BnC) (v:FrV) (b:Pk.B) (a:Option Addr) (n cp:Nat) (l:List (Int × Int)) (h:BnAt w B k c v b) (hl:TyF w k v a n cp l) (hl5:l.length≤20000) :
  Calls Tryz.prog 174 #[.pointer (some ⟨k,0,none⟩),.slice a n cp] w fun e w'=>e=.returned (.tuple #[])∧∃ v',BnAt w' B k c v' (Pk.takeAll c.T l b)∧Bn k w v w' v':=by
 unfold Pk.takeAll
 generalize hR:Pk.takeTo c.T l l.length b=R
 have HR:=hide hR
 clear hR
 obtain ⟨hn,-,-⟩:=hl.1.cap
 subst hn
 go_enter Tryz.func174,Tryz.ntmps174
 go_wp2
 go_loopw [4] (fun s wr=>∃ (m:Nat) (v':FrV) (b':Pk.B),m≤l.length∧s=.int .i64 ((m:Int) - 1)∧Hid (Pk.takeTo c.T l m b'=R)∧BnAt wr B k c v' b'∧Bn k w v wr v')
  (fun s _=>(intOf s+1).toNat)
 case atStart=>exact ⟨l.length,v,b,Nat.le_refl _,by go_num,HR,h,Bn.refl _ _ _⟩
 case round =>
  clear HR h
  obtain ⟨m,v1,b1,hm,rfl,HR,h,hG⟩:=hrel
  cases m with
  | zero =>
   have HE:Hid (b1=R):=unhide HR
   clear HR
   go_wp2
   go_end0
   obtain rfl:=unhide HE
   exact ⟨rfl,v1,h,hG⟩
  | succ m =>
   have hr:=unhide HR
   rw [Pk.takeTo] at hr
   have hta:=take_any wr B k c v1 b1 h
   have hlF:=hl.bn hG
   have hkl:=h.k_lt
   have hsl:=h.sl
   have hge:(0:Int)≤((m+1:Nat):Int) - 1:=by omega
   have hmm:((m+1:Nat):Int) - 1=(m:Int):=by omega
   rw [hmm]
   generalize hta1:(Pk.take b1).1=t at *
   obtain ⟨t1,t2⟩:=t
   generalize hta2:(Pk.take b1).2=b2 at *
   have HTA:=hide hta
   have HRR:=hide hr
   clear hta hr HR hta1 hta2 hge hmm
   go_wp2_with fail
   refine (unhide HTA).mono ?_
   rintro e w1 ⟨rfl,v2,h2,hG2⟩
   have hlF2:=(hlF.bn hG2)
   obtain ⟨g,o,rfl,hglt,hat⟩:=hlF2.1.at (by omega)
   obtain ⟨y0,y1⟩:=hat m (by omega)
   have hx:l.getD m (0,0)=l[m]:=by simp [List.getD_eq_getElem?_getD,show m < l.length by omega]
   have hr:=unhide HRR
   rw [hx] at hr
   generalize l[m]=x at *
   obtain ⟨x1,x2⟩:=x
   simp only at y0 y1
   have h3:=h2.alloc (.cells #[.int .i64 t1,.int .i64 t2] 48)
   have hG3:=(hG.trans hG2).alloc (.cells #[.int .i64 t1,.int .i64 t2] 48)
   have TA:=alloc_blk w1 (.cells #[.int .i64 t1,.int .i64 t2] 48)
   have p0:(w1.alloc (.cells #[.int .i64 t1,.int .i64 t2] 48)).cell? ⟨w1.heap.size,0,none⟩=some (.int .i64 t1):=(blk_cell TA 0).trans rfl
   have p1:(w1.alloc (.cells #[.int .i64 t1,.int .i64 t2] 48)).cell? ⟨w1.heap.size,1,none⟩=some (.int .i64 t2):=(blk_cell TA 1).trans rfl
   have k0:=blk_cell h3.blk 0
   have k1:=blk_cell h3.blk 1
   have lT:=lt_of_block TA
   have lK:=h3.k_lt
   simp at k0 k1
   have z0:=(World.cell?_alloc_lt w1 (.cells #[.int .i64 t1,.int .i64 t2] 48) ⟨g,o+m * 2,none⟩ hglt).trans y0
   have z1:=(World.cell?_alloc_lt w1 (.cells #[.int .i64 t1,.int .i64 t2] 48) ⟨g,o+m * 2+1,none⟩ hglt).trans y1
   have lg:g < (w1.alloc (.cells #[.int .i64 t1,.int .i64 t2] 48)).heap.size:=by simp; omega
   have hfi:=tfits_any (ya:=c.ya) (yn:=c.yn) (yc:=c.yc) c.T c.tg c.tc t1 t2 x1 x2 (w1.alloc (.cells #[.int .i64 t1,.int .i64 t2] 48)).drew h3.tl h3.drew.tr
   have hfe:Pk.fit c.T (t1,t2) (x1,x2) b2=if Tr.fitsB c.T t1 t2 x1 x2=true then b2 else ⟨b2.lo,b2.st,true⟩:=rfl
   rw [hfe] at hr
   generalize Tr.fitsB c.T t1 t2 x1 x2=A at *
   have HFI:=hide hfi
   have kb:(m:Int) < (l.length:Int):=by omega
   have hm0:(0:Int)≤(m:Int):=by omega
   clear hat hx hlF HRR hfi hfe y0 y1 hlF2 hG2 h2
   go_wp2
   go_region_held3 (fun w'=>w'.cell? ⟨k,0,none⟩=some (.slice (some ⟨c.tg,0,none⟩) c.T.length c.tc)∧w'.cell? ⟨k,1,none⟩=some (.slice c.ya c.yn c.yc)∧w'.cell? ⟨w1.heap.size,0,none⟩=some (.int .i64 t1)∧w'.cell? ⟨w1.heap.size,1,none⟩=some (.int .i64 t2)∧w'.cell? ⟨g,o+m * 2,none⟩=some (.int .i64 x1)∧w'.cell? ⟨g,o+m * 2+1,none⟩=some (.int .i64 x2))
    (first | exact ⟨k0,k1,p0,p1,z0,z1⟩ | exact ⟨(hb7.cell lK).trans k0,(hb7.cell lK).trans k1,(hb7.cell lT).trans p0,(hb7.cell lT).trans p1,(hb7.cell lg).trans z0,(hb7.cell lg).trans z1⟩)
    (first | (go_at_call 92; refine (unhide HFI).mono ?_; rintro e w7 ⟨rfl,hb7⟩))
   have h7:=h3.drew.below hb7
   have hG7:=hG3.drew.trans (Bn.of_below _ hb7)
   have c5:=blk_cell h7.blk 5
   have f5:=blk_free h7.blk 5
   have lk7:=h7.k_lt
   simp at c5
   clear hb7 k0 k1 p0 p1 z0 z1 lK lT lg TA h3 hG3 HFI
   cases A with
   | true =>
    have HG2:Hid (Pk.takeTo c.T l m b2=R):=by unfold Hid; rw [← hr]; rfl
    clear hr
    go_wp2
    go_roundw
    case rel=>exact ⟨m,v2,b2,by omega,by go_num,HG2,h7,hG7⟩
    case measure=>simp [intOf]
   | false =>
    have HG2:Hid (Pk.takeTo c.T l m ⟨b2.lo,b2.st,true⟩=R):=by unfold Hid; rw [← hr]; rfl
    clear hr
    have h8:=h7.brk
    have hG8:=hG7.brk
    go_wp2
    go_roundw
    case rel=>exact ⟨m,v2,_,by omega,by go_num,HG2,h8,hG8⟩
    case measure=>simp [intOf]

set_option maxRecDepth 100000 in
set_option maxHeartbeats 8000000 in
theorem leaveAll_any (w:World) (B k:Nat) (c:BnC) (v:FrV) (b:Pk.B) (a:Option Addr) (n cp:Nat) (l:List (Int × Int)) (h:BnAt w B k c v b) (hl:TyF w k v a n cp l) (hl5:b.st.length+l.length≤4000) :
  Calls Tryz.prog 176 #[.pointer (some ⟨k,0,none⟩),.slice a n cp] w fun e w'=>e=.returned (.tuple #[])∧∃ v',BnAt w' B k c v' (Pk.leaveAll c.hi l b)∧Bn k w v w' v':=by
 generalize hR:Pk.leaveAll c.hi l b=R
 have HR:Hid (Pk.leaveAll c.hi (l.drop 0) b=R):=hR
 clear hR
 obtain ⟨hn,-,-⟩:=hl.1.cap
 subst hn
 go_enter Tryz.func176,Tryz.ntmps176
 go_wp2
 go_loopw [8] (fun s wr=>∃ (m:Nat) (v':FrV) (b':Pk.B),m≤l.length∧s=.int .i64 (m:Int)∧b'.st.length≤b.st.length+m∧Hid (Pk.leaveAll c.hi (l.drop m) b'=R)∧BnAt wr B k c v' b'∧Bn k w v wr v')
  (fun s _=>l.length - (intOf s).toNat)
 case atStart=>exact ⟨0,v,b,by omega,rfl,by omega,HR,h,Bn.refl _ _ _⟩
 case round =>
  clear HR h
  obtain ⟨m,v1,b1,hm,rfl,hbl,HR,h,hG⟩:=hrel
  by_cases hmn:m < l.length
  ·have hlF:=hl.bn hG
   obtain ⟨g,o,rfl,hglt,hat⟩:=hlF.1.at (by omega)
   obtain ⟨y0,y1⟩:=hat m hmn
   have hd:l.drop m=l[m] :: l.drop (m+1):=List.drop_eq_getElem_cons hmn
   have hr:=unhide HR
   rw [hd,Pk.leaveAll] at hr
   generalize l[m]=x at *
   obtain ⟨x1,x2⟩:=x
   simp only at y0 y1
   have h2:=h.alloc (.cells #[.int .i64 x1,.int .i64 x2] 48)
   have hG2:=hG.alloc (.cells #[.int .i64 x1,.int .i64 x2] 48)
   have hle:=leave_any _ B k c v1 b1 x1 x2 h2 (by omega)
   have hll:(Pk.leave c.hi (x1,x2) b1).st.length≤b.st.length+(m+1):=by unfold Pk.leave; split <;> simp <;> omega
   generalize Pk.leave c.hi (x1,x2) b1=b2 at *
   have HLE:=hide hle
   have HG2:Hid (Pk.leaveAll c.hi (l.drop (m+1)) b2=R):=hr
   have kb:(m:Int) < (l.length:Int):=by omega
   clear hle hr HR hd hat
   go_wp2_with fail
   refine (unhide HLE).mono ?_
   rintro e w1 ⟨rfl,v2,h3,hG3⟩
   go_wp2
   go_roundw
   case rel=>exact ⟨m+1,v2,b2,by omega,by go_num,by omega,HG2,h3,hG2.trans hG3⟩
   case measure=>simp [intOf]; omega
  ·have HE:Hid (b1=R):=by unfold Hid; rw [← unhide HR,List.drop_eq_nil_of_le (by omega),Pk.leaveAll]
   have kb:¬ (m:Int) < (l.length:Int):=by omega
   clear HR
   go_wp2
   go_end0
   obtain rfl:=unhide HE
   exact ⟨rfl,v1,h,hG⟩

set_option maxRecDepth 100000 in
set_option maxHeartbeats 8000000 in
theorem load_any (w:World) (B k:Nat) (c:BnC) (v:FrV) (b:Pk.B) (n:Nat) (h:BnAt w B k c v b) (hsl:b.st.length < 5000) :
  Calls Tryz.prog 166 #[.pointer (some ⟨k,0,none⟩),.int .i64 (n:Int)] w fun e w'=>e=.returned (.tuple #[])∧∃ v',BnAt w' B k c v' (Pk.load c.hi (n:Int) b)∧Bn k w v w' v':=by
 have hle:=fun t1 t2=>leave_any w B k c v b t1 t2 h hsl
 have hb:=h.blk
 have hkl:=h.k_lt
 have hlo:=h.lo
 obtain ⟨la,ln,lc,sa,sn,sc⟩:=v
 obtain ⟨lo,st,br⟩:=b
 obtain ⟨xa,xc,hsh⟩:=own_shape h.lo
 simp only [Value.slice.injEq] at hsh
 obtain ⟨rfl,hn1,rfl⟩:=hsh
 subst hn1
 have c2:=blk_cell hb 2
 have c5:=blk_cell hb 5
 have f5:=blk_free hb 5
 simp at c2 c5
 unfold Pk.load
 simp only
 rw [if_neg (by omega),Int.toNat_natCast]
 have hn0:¬ (n:Int) < 0:=by omega
 have hll:=h.ll
 simp only at hll hlo
 by_cases h1:(lo.length:Int)≤(n:Int)
 ·rw [if_pos h1]
  clear hle hb hlo
  go_enter Tryz.func166,Tryz.ntmps166
  go_wp2
  refine bodyPost_ret (v:=.tuple #[]) (by simp [results,Tryz.results166,go_sem]) rfl ?_
  exact ⟨rfl,_,h.brk,(Bn.refl _ _ _).brk⟩
 ·rw [if_neg h1]
  have hq:n < lo.length:=by omega
  have hqi:(n:Int) < (lo.length:Int):=by omega
  obtain ⟨g,hg,hglt,_,hcell⟩:=own_some hlo (by omega)
  obtain ⟨e1,e2,e3⟩:=tcells_at lo n hq
  have y0:=(hcell (n * 2) (by omega)).trans e1
  have y1:=(hcell (n * 2+1) (by omega)).trans e2
  have hx:lo.getD n (0,0)=lo[n]:=by simp [List.getD_eq_getElem?_getD,hq]
  rw [hx]
  generalize lo[n]=x at *
  obtain ⟨x1,x2⟩:=x
  simp only at y0 y1 ⊢
  subst hg
  by_cases h2:x1=0
  ·rw [if_pos h2]
   have h2':(x1 == 0)=true:=by simp [h2]
   clear h2 hle hb hcell e1 e2 e3 hx h1
   go_enter Tryz.func166,Tryz.ntmps166
   go_wp2
   refine bodyPost_ret (v:=.tuple #[]) (by simp [results,Tryz.results166,go_sem]) rfl ?_
   exact ⟨rfl,_,h.brk,(Bn.refl _ _ _).brk⟩
  ·rw [if_neg h2]
   have h2':(x1 == 0)=false:=by simp [h2]
   have hle:=hle x1 x2
   generalize Pk.leave c.hi (x1,x2) ⟨lo,st,br⟩=b2 at *
   have HLE:=hide hle
   clear h2 hle hb hcell e1 e2 e3 hx h1
   go_enter Tryz.func166,Tryz.ntmps166
   go_wp2_with fail
   refine (unhide HLE).mono ?_
   rintro e w1 ⟨rfl,v2,h3,hG3⟩
   go_wp2
   go_end0
   exact ⟨rfl,v2,h3,hG3⟩
end Go.Proofs.YteffpdofcgbokaaGreat

/-
  The walks over the bench's methods: store, become, behind; copied, benchFor.
-/
namespace Go.Proofs.YteffpdofcgbokaaGreat
open Go.RowKit

/-- one type of the locals' row written -/
theorem BnAt.setLo {w:World}{B k:Nat}{c:BnC}{v:FrV}{b:Pk.B} (h:BnAt w B k c v b) {g ln lc q:Nat} (hg:v.lv=.slice (some ⟨g,0,none⟩) ln lc) (hq:q < b.lo.length) (t1 t2:Int) :
  BnAt ((w.setCell ⟨g,q * 2,none⟩ (.int .i64 t1)).setCell ⟨g,q * 2+1,none⟩ (.int .i64 t2)) B k c v ⟨b.lo.set q (t1,t2),b.st,b.br⟩∧Bn k w v ((w.setCell ⟨g,q * 2,none⟩ (.int .i64 t1)).setCell ⟨g,q * 2+1,none⟩ (.int .i64 t2)) v:=by
 have ho:v.lv.ownBlock=some g:=by rw [hg]; rfl
 have hgk:k ≠ g:=fun e=>h.nk.1 (e ▸ ho)
 have hgs:v.sv.ownBlock ≠ some g:=h.ns g ho
 have hgB:B≤g:=(h.lo.lt g ho).1
 have hne:∀ j,j ≠ g→((w.setCell ⟨g,q * 2,none⟩ (.int .i64 t1)).setCell ⟨g,q * 2+1,none⟩ (.int .i64 t2)).heap[j]?=w.heap[j]?:=fun j hj=>(heap_set_ne hj).trans (heap_set_ne hj)
 have hlo:=h.lo
 rw [hg] at hlo
 obtain ⟨g',eg,-,-,-,-,-,-,hts⟩:=tys_set hlo hq t1 t2
 simp only [Option.some.injEq,Addr.mk.injEq,and_true] at eg
 subst eg
 have hbel:Below B w ((w.setCell ⟨g,q * 2,none⟩ (.int .i64 t1)).setCell ⟨g,q * 2+1,none⟩ (.int .i64 t2)):=((Below.refl B w).setCell (by simpa using hgB) _).setCell (by simpa using hgB) _
 refine ⟨⟨(hne k hgk).trans h.blk,by rw [hg]; exact hts,own_at h.st (fun j hj=>hne j (fun e=>hgs (e ▸ hj))),h.nk,h.ns,h.hB,treeIn_at h.tr h.tB hbel,h.tB,h.tl,by simpa using h.ll,h.sl⟩,?_⟩
 exact ⟨((Below.refl 0 w).setCell (by simp) _).setCell (by simp) _,fun j hj hf=>⟨hne j (fun e=>hf.2.1 (e ▸ ho)),hf⟩⟩
/-- one type of the stack's row written -/
theorem BnAt.setSt {w:World}{B k:Nat}{c:BnC}{v:FrV}{b:Pk.B} (h:BnAt w B k c v b) {g sn sc q:Nat} (hg:v.sv=.slice (some ⟨g,0,none⟩) sn sc) (hq:q < b.st.length) (t1 t2:Int) :
  BnAt ((w.setCell ⟨g,q * 2,none⟩ (.int .i64 t1)).setCell ⟨g,q * 2+1,none⟩ (.int .i64 t2)) B k c v ⟨b.lo,b.st.set q (t1,t2),b.br⟩∧Bn k w v ((w.setCell ⟨g,q * 2,none⟩ (.int .i64 t1)).setCell ⟨g,q * 2+1,none⟩ (.int .i64 t2)) v:=by
 have ho:v.sv.ownBlock=some g:=by rw [hg]; rfl
 have hgk:k ≠ g:=fun e=>h.nk.2 (e ▸ ho)
 have hgl:v.lv.ownBlock ≠ some g:=fun e=>h.ns g e ho
 have hgB:B≤g:=(h.st.lt g ho).1
 have hne:∀ j,j ≠ g→((w.setCell ⟨g,q * 2,none⟩ (.int .i64 t1)).setCell ⟨g,q * 2+1,none⟩ (.int .i64 t2)).heap[j]?=w.heap[j]?:=fun j hj=>(heap_set_ne hj).trans (heap_set_ne hj)
 have hst:=h.st
 rw [hg] at hst
 obtain ⟨g',eg,-,-,-,-,-,-,hts⟩:=tys_set hst hq t1 t2
 simp only [Option.some.injEq,Addr.mk.injEq,and_true] at eg
 subst eg
 have hbel:Below B w ((w.setCell ⟨g,q * 2,none⟩ (.int .i64 t1)).setCell ⟨g,q * 2+1,none⟩ (.int .i64 t2)):=((Below.refl B w).setCell (by simpa using hgB) _).setCell (by simpa using hgB) _
 refine ⟨⟨(hne k hgk).trans h.blk,own_at h.lo (fun j hj=>hne j (fun e=>hgl (e ▸ hj))),by rw [hg]; exact hts,h.nk,h.ns,h.hB,treeIn_at h.tr h.tB hbel,h.tB,h.tl,h.ll,by simpa using h.sl⟩,?_⟩
 exact ⟨((Below.refl 0 w).setCell (by simp) _).setCell (by simp) _,fun j hj hf=>⟨hne j (fun e=>hf.2.2 (e ▸ ho)),hf⟩⟩
theorem TysAt.alloc' {w:World}{b:Nat}{v:Value}{l:List (Int × Int)} (h:TysAt w b v l) (o:Obj):TysAt (w.alloc o) b v l:=own_at h (fun j hj=>Below.heap_alloc _ _ _ (h.lt j hj).2)

set_option maxRecDepth 100000 in
set_option maxHeartbeats 8000000 in
theorem store_any (w:World) (B k:Nat) (c:BnC) (v:FrV) (b:Pk.B) (n:Nat) (h:BnAt w B k c v b) (hn:n≤100000) :
  Calls Tryz.prog 167 #[.pointer (some ⟨k,0,none⟩),.int .i64 (n:Int)] w fun e w'=>e=.returned (.tuple #[])∧∃ v',BnAt w' B k c v' (Pk.store (n:Int) b)∧Bn k w v w' v':=by
 have hta:=take_any w B k c v b h
 have hlo2:=take_lo b
 unfold Pk.store
 rw [if_neg (by omega),Int.toNat_natCast]
 rw [← hlo2]
 generalize Pk.take b=tb at *
 obtain ⟨⟨t1,t2⟩,b2⟩:=tb
 simp only at hta ⊢
 have HTA:=hide hta
 have hn0:¬ (n:Int) < 0:=by omega
 clear hta hlo2 h
 by_cases hlen:(b2.lo.length:Int)≤(n:Int)
 ·rw [if_pos hlen]
  go_enter Tryz.func167,Tryz.ntmps167
  go_wp2_with fail
  refine (unhide HTA).mono ?_
  rintro e w1 ⟨rfl,v1,h1,hG1⟩
  obtain ⟨la,ln,lc,sa,sn,sc⟩:=v1
  obtain ⟨xa,xc,hsh⟩:=own_shape h1.lo
  simp only [Value.slice.injEq] at hsh
  obtain ⟨rfl,hn1,rfl⟩:=hsh
  subst hn1
  have h2:=h1.alloc (.cells #[.int .i64 t1,.int .i64 t2] 48)
  have hG2:=hG1.alloc (.cells #[.int .i64 t1,.int .i64 t2] 48)
  have c2:=blk_cell h1.blk 2
  have c5:=blk_cell h1.blk 5
  have f5:=blk_free h1.blk 5
  have lk:=h1.k_lt
  have hll:=h1.ll
  simp at c2 c5
  go_wp2
  refine bodyPost_ret (v:=.tuple #[]) (by simp [results,Tryz.results167,go_sem]) rfl ?_
  exact ⟨rfl,_,h1.brk.alloc _,hG1.brk.alloc _⟩
 ·rw [if_neg hlen]
  have hq:n < b2.lo.length:=by omega
  have hqi:(n:Int) < (b2.lo.length:Int):=by omega
  clear hlen
  go_enter Tryz.func167,Tryz.ntmps167
  go_wp2_with fail
  refine (unhide HTA).mono ?_
  rintro e w1 ⟨rfl,v1,h1,hG1⟩
  obtain ⟨la,ln,lc,sa,sn,sc⟩:=v1
  obtain ⟨xa,xc,hsh⟩:=own_shape h1.lo
  simp only [Value.slice.injEq] at hsh
  obtain ⟨rfl,hn1,rfl⟩:=hsh
  subst hn1
  have h2:=h1.alloc (.cells #[.int .i64 t1,.int .i64 t2] 48)
  have hG2:=hG1.alloc (.cells #[.int .i64 t1,.int .i64 t2] 48)
  have c2:=blk_cell h1.blk 2
  have c5:=blk_cell h1.blk 5
  have f5:=blk_free h1.blk 5
  have lk:=h1.k_lt
  have hll:=h1.ll
  simp at c2 c5
  obtain ⟨g,hg,hglt,_,y0,y1,z0,z1,-⟩:=tys_set h1.lo hq t1 t2
  subst hg
  have hS:=h1.setLo (g:=g) (ln:=b2.lo.length) (lc:=lc) (q:=n) rfl hq t1 t2
  have hSA:=hS.1.alloc (.cells #[.int .i64 t1,.int .i64 t2] 48)
  have hsz:((w1.setCell ⟨g,n * 2,none⟩ (.int .i64 t1)).setCell ⟨g,n * 2+1,none⟩ (.int .i64 t2)).heap.size=w1.heap.size:=by simp [World.setCell]
  have TS:=alloc_blk ((w1.setCell ⟨g,n * 2,none⟩ (.int .i64 t1)).setCell ⟨g,n * 2+1,none⟩ (.int .i64 t2)) (.cells #[.int .i64 t1,.int .i64 t2] 48)
  rw [hsz] at TS
  have s0:(((w1.setCell ⟨g,n * 2,none⟩ (.int .i64 t1)).setCell ⟨g,n * 2+1,none⟩ (.int .i64 t2)).alloc (.cells #[.int .i64 t1,.int .i64 t2] 48)).cell? ⟨w1.heap.size,0,none⟩=some (.int .i64 t1):=(blk_cell TS 0).trans rfl
  have s1:(((w1.setCell ⟨g,n * 2,none⟩ (.int .i64 t1)).setCell ⟨g,n * 2+1,none⟩ (.int .i64 t2)).alloc (.cells #[.int .i64 t1,.int .i64 t2] 48)).cell? ⟨w1.heap.size,1,none⟩=some (.int .i64 t2):=(blk_cell TS 1).trans rfl
  have s2:(((w1.setCell ⟨g,n * 2,none⟩ (.int .i64 t1)).setCell ⟨g,n * 2+1,none⟩ (.int .i64 t2)).alloc (.cells #[.int .i64 t1,.int .i64 t2] 48)).cell? ⟨k,2,none⟩=some (.slice (some ⟨g,0,none⟩) b2.lo.length lc):=(blk_cell hSA.blk 2).trans rfl
  clear hsz TS
  have hgk:g ≠ k:=fun e=>h1.nk.1 (by rw [e]; rfl)
  have hg1:g < w1.heap.size:=(h1.lo.lt g rfl).2
  have TA:=alloc_blk w1 (.cells #[.int .i64 t1,.int .i64 t2] 48)
  have p0:(w1.alloc (.cells #[.int .i64 t1,.int .i64 t2] 48)).cell? ⟨w1.heap.size,0,none⟩=some (.int .i64 t1):=(blk_cell TA 0).trans rfl
  have p1:(w1.alloc (.cells #[.int .i64 t1,.int .i64 t2] 48)).cell? ⟨w1.heap.size,1,none⟩=some (.int .i64 t2):=(blk_cell TA 1).trans rfl
  have d2:(w1.alloc (.cells #[.int .i64 t1,.int .i64 t2] 48)).cell? ⟨k,2,none⟩=some (.slice (some ⟨g,0,none⟩) b2.lo.length lc):=(blk_cell h2.blk 2).trans rfl
  go_wp2
  go_region_held3 (fun w'=>w'.cell? ⟨k,2,none⟩=some (.slice (some ⟨g,0,none⟩) b2.lo.length lc)∧w'.cell? ⟨w1.heap.size,0,none⟩=some (.int .i64 t1)∧w'.cell? ⟨w1.heap.size,1,none⟩=some (.int .i64 t2))
   (first | exact ⟨d2,p0,p1⟩ | exact ⟨s2,s0,s1⟩)
   (fail)
  go_wp2
  go_end0
  exact ⟨rfl,_,hSA.drew,(((hG1.trans hS.2).alloc _).drew)⟩
end Go.Proofs.YteffpdofcgbokaaGreat

/-
  The walk over the bench's become.
-/
namespace Go.Proofs.YteffpdofcgbokaaGreat
open Go.RowKit

/-- the first m of a list turned -/
def Pk.part (a b:Int × Int) (l:List (Int × Int)) (m:Nat):List (Int × Int):=Ck.turned a b (l.take m) ++ l.drop m
theorem part_zero (a b:Int × Int) (l:List (Int × Int)):Pk.part a b l 0=l:=by simp [Pk.part,Ck.turned]
theorem part_all (a b:Int × Int) (l:List (Int × Int)):Pk.part a b l l.length=Ck.turned a b l:=by simp [Pk.part]
theorem part_len (a b:Int × Int) (l:List (Int × Int)) (m:Nat):(Pk.part a b l m).length=l.length:=by
 simp only [Pk.part,List.length_append,turned_len,List.length_take,List.length_drop]; omega
theorem part_get (a b:Int × Int) (l:List (Int × Int)) (m:Nat) (hm:m < l.length) (h:m < (Pk.part a b l m).length):(Pk.part a b l m)[m]=l[m]:=by
 have e:(Ck.turned a b (l.take m)).length=m:=by rw [turned_len]; simp; omega
 simp only [Pk.part]
 rw [List.getElem_append_right (by omega)]
 simp [e]
theorem part_succ (a b:Int × Int) (l:List (Int × Int)) (m:Nat) (hm:m < l.length):Pk.part a b l (m+1)=(Pk.part a b l m).set m (if l[m]=a then b else l[m]):=by
 have e:(Ck.turned a b (l.take m)).length=m:=by rw [turned_len]; simp; omega
 simp only [Pk.part]
 rw [turned_snoc a b l m hm,List.set_append_right _ _ (by omega),e,Nat.sub_self,List.append_assoc,List.drop_eq_getElem_cons hm]
 rfl
theorem part_same (a b:Int × Int) (l:List (Int × Int)) (m:Nat) (hm:m < l.length) (h:l[m] ≠ a):Pk.part a b l (m+1)=Pk.part a b l m:=by
 rw [part_succ a b l m hm,if_neg h]
 have h2:m < (Pk.part a b l m).length:=by rw [part_len]; exact hm
 conv=>lhs; arg 3; rw [← part_get a b l m hm h2]
 exact List.set_getElem_self h2

set_option maxRecDepth 100000 in
set_option maxHeartbeats 16000000 in
theorem become_any (w:World) (B k:Nat) (c:BnC) (v:FrV) (b:Pk.B) (k1 n1 k2 n2:Int) (h:BnAt w B k c v b) :
  Calls Tryz.prog 170 #[.pointer (some ⟨k,0,none⟩),.agg #[.int .i64 k1,.int .i64 n1],.agg #[.int .i64 k2,.int .i64 n2]] w fun e w'=>e=.returned (.tuple #[])∧∃ v',BnAt w' B k c v' (Pk.become (k1,n1) (k2,n2) b)∧Bn k w v w' v':=by
 obtain ⟨lo,st,br⟩:=b
 unfold Pk.become
 simp only
 obtain ⟨la,ln,lc,sa,sn,sc⟩:=v
 obtain ⟨xa,xc,hsh⟩:=own_shape h.lo
 simp only [Value.slice.injEq] at hsh
 obtain ⟨rfl,hn1,rfl⟩:=hsh
 subst hn1
 obtain ⟨xa,xc,hsh⟩:=own_shape h.st
 simp only [Value.slice.injEq] at hsh
 obtain ⟨rfl,hn1,rfl⟩:=hsh
 subst hn1
 have h0:=(h.alloc (.cells #[.int .i64 k1,.int .i64 n1] 48)).alloc (.cells #[.int .i64 k2,.int .i64 n2] 48)
 have G0:=((Bn.refl k w ⟨la,lo.length,lc,sa,st.length,sc⟩).alloc (.cells #[.int .i64 k1,.int .i64 n1] 48)).alloc (.cells #[.int .i64 k2,.int .i64 n2] 48)
 have O0:=alloc1_blk w (.cells #[.int .i64 k1,.int .i64 n1] 48) (.cells #[.int .i64 k2,.int .i64 n2] 48)
 have N0:=alloc2_blk w (.cells #[.int .i64 k1,.int .i64 n1] 48) (.cells #[.int .i64 k2,.int .i64 n2] 48)
 have hll:=h.ll
 have hsl:=h.sl
 have hkl:=h.k_lt
 have hlo0:∀ g,la=some ⟨g,0,none⟩→g < w.heap.size:=fun g e=>(h.lo.lt g (by subst e; rfl)).2
 have hst0:∀ g,sa=some ⟨g,0,none⟩→g < w.heap.size:=fun g e=>(h.st.lt g (by subst e; rfl)).2
 have c2:=blk_cell h0.blk 2
 simp at c2
 simp only at hll hsl
 go_enter Tryz.func170,Tryz.ntmps170
 go_wp2
 go_loopw [15] (fun s wr=>∃ m:Nat,m≤lo.length∧s=.int .i64 (m:Int)∧BnAt wr B k c ⟨la,lo.length,lc,sa,st.length,sc⟩ ⟨Pk.part (k1,n1) (k2,n2) lo m,st,br⟩∧Bn k w ⟨la,lo.length,lc,sa,st.length,sc⟩ wr ⟨la,lo.length,lc,sa,st.length,sc⟩∧wr.heap[w.heap.size]?=some (.cells #[.int .i64 k1,.int .i64 n1] 48 (0,0))∧wr.heap[w.heap.size+1]?=some (.cells #[.int .i64 k2,.int .i64 n2] 48 (0,0)))
  (fun s _=>lo.length - (intOf s).toNat)
 case atStart=>exact ⟨0,by omega,rfl,by rw [part_zero]; exact h0,G0,O0,N0⟩
 case round =>
  clear h0 G0 O0 N0 c2
  obtain ⟨m,hm,rfl,hb,hG,hO,hN⟩:=hrel
  have lO:=lt_of_block hO
  have lN:=lt_of_block hN
  by_cases hmn:m < lo.length
  ·have hpl:m < (Pk.part (k1,n1) (k2,n2) lo m).length:=by rw [part_len]; exact hmn
   have hg9:=part_get (k1,n1) (k2,n2) lo m hmn hpl
   have hss:=part_succ (k1,n1) (k2,n2) lo m hmn
   have hsm:=part_same (k1,n1) (k2,n2) lo m hmn
   obtain ⟨g,hg,hglt,hgB,y0,y1,z0,z1,-⟩:=tys_set hb.lo hpl k2 n2
   subst hg
   have hgw:=hlo0 g rfl
   rw [hg9] at y0 y1
   generalize lo[m]=x at *
   obtain ⟨t1,t2⟩:=x
   simp only at y0 y1
   have d2:=blk_cell hb.blk 2
   have lK:=hb.k_lt
   have o0:=blk_cell hO 0
   have o1:=blk_cell hO 1
   have q0:=blk_cell hN 0
   have q1:=blk_cell hN 1
   simp at d2 o0 o1 q0 q1
   have kb:(m:Int) < (lo.length:Int):=by omega
   by_cases he1:t1=k1
   ·subst he1
    by_cases he2:t2=n1
    ·subst he2
     rw [if_pos rfl] at hss
     have hS:=hb.setLo (g:=g) (q:=m) rfl hpl k2 n2
     rw [← hss] at hS
     have hSA:=hS.1.alloc (.cells #[.int .i64 t1,.int .i64 t2] 48)
     have hsz:((wr.setCell ⟨g,m * 2,none⟩ (.int .i64 k2)).setCell ⟨g,m * 2+1,none⟩ (.int .i64 n2)).heap.size=wr.heap.size:=by simp [World.setCell]
     have hOS:((wr.setCell ⟨g,m * 2,none⟩ (.int .i64 k2)).setCell ⟨g,m * 2+1,none⟩ (.int .i64 n2)).heap[w.heap.size]?=_:=((heap_set_ne (by omega)).trans (heap_set_ne (by omega))).trans hO
     have hNS:((wr.setCell ⟨g,m * 2,none⟩ (.int .i64 k2)).setCell ⟨g,m * 2+1,none⟩ (.int .i64 n2)).heap[w.heap.size+1]?=_:=((heap_set_ne (by omega)).trans (heap_set_ne (by omega))).trans hN
     have a0:(wr.alloc (.cells #[.int .i64 t1,.int .i64 t2] 48)).cell? ⟨w.heap.size+1,0,none⟩=some (.int .i64 k2):=(blk_cell (stay1 hN (.cells #[.int .i64 t1,.int .i64 t2] 48)) 0).trans rfl
     have a1:(wr.alloc (.cells #[.int .i64 t1,.int .i64 t2] 48)).cell? ⟨w.heap.size+1,1,none⟩=some (.int .i64 n2):=(blk_cell (stay1 hN (.cells #[.int .i64 t1,.int .i64 t2] 48)) 1).trans rfl
     have a2:(wr.alloc (.cells #[.int .i64 t1,.int .i64 t2] 48)).cell? ⟨k,2,none⟩=some (.slice (some ⟨g,0,none⟩) lo.length lc):=(blk_cell (hb.alloc (.cells #[.int .i64 t1,.int .i64 t2] 48)).blk 2).trans rfl
     have s0:(((wr.setCell ⟨g,m * 2,none⟩ (.int .i64 k2)).setCell ⟨g,m * 2+1,none⟩ (.int .i64 n2)).alloc (.cells #[.int .i64 t1,.int .i64 t2] 48)).cell? ⟨w.heap.size+1,0,none⟩=some (.int .i64 k2):=(blk_cell (stay1 hNS (.cells #[.int .i64 t1,.int .i64 t2] 48)) 0).trans rfl
     have s1:(((wr.setCell ⟨g,m * 2,none⟩ (.int .i64 k2)).setCell ⟨g,m * 2+1,none⟩ (.int .i64 n2)).alloc (.cells #[.int .i64 t1,.int .i64 t2] 48)).cell? ⟨w.heap.size+1,1,none⟩=some (.int .i64 n2):=(blk_cell (stay1 hNS (.cells #[.int .i64 t1,.int .i64 t2] 48)) 1).trans rfl
     have s2:(((wr.setCell ⟨g,m * 2,none⟩ (.int .i64 k2)).setCell ⟨g,m * 2+1,none⟩ (.int .i64 n2)).alloc (.cells #[.int .i64 t1,.int .i64 t2] 48)).cell? ⟨k,2,none⟩=some (.slice (some ⟨g,0,none⟩) lo.length lc):=(blk_cell hSA.blk 2).trans rfl
     clear hss hsm hg9 hsz
     go_wp2
     go_region_held3 (fun w'=>w'.cell? ⟨k,2,none⟩=some (.slice (some ⟨g,0,none⟩) lo.length lc)∧w'.cell? ⟨w.heap.size+1,0,none⟩=some (.int .i64 k2)∧w'.cell? ⟨w.heap.size+1,1,none⟩=some (.int .i64 n2)) (first | exact ⟨a2,a0,a1⟩ | exact ⟨s2,s0,s1⟩) (fail)
     go_wp2
     go_roundw
     case rel=>exact ⟨m+1,by omega,by go_num,hSA.drew,(((hG.trans hS.2).alloc _).drew),stay1 hOS _,stay1 hNS _⟩
     case measure=>simp [intOf]; omega
    ·have he2':(t2 == n1)=false:=by simp [he2]
     rw [← hsm (by simp; exact he2)] at hb
     have hb2:=hb.alloc (.cells #[.int .i64 t1,.int .i64 t2] 48)
     have hO2:=stay1 hO (.cells #[.int .i64 t1,.int .i64 t2] 48)
     have hN2:=stay1 hN (.cells #[.int .i64 t1,.int .i64 t2] 48)
     clear hss hsm hg9 he2
     go_wp2
     go_roundw
     case rel=>exact ⟨m+1,by omega,by go_num,hb2,hG.alloc _,hO2,hN2⟩
     case measure=>simp [intOf]; omega
   ·have he1':(t1 == k1)=false:=by simp [he1]
    rw [← hsm (by simp; intro e; exact absurd e he1)] at hb
    have hb2:=hb.alloc (.cells #[.int .i64 t1,.int .i64 t2] 48)
    have hO2:=stay1 hO (.cells #[.int .i64 t1,.int .i64 t2] 48)
    have hN2:=stay1 hN (.cells #[.int .i64 t1,.int .i64 t2] 48)
    clear hss hsm hg9 he1
    go_wp2
    go_roundw
    case rel=>exact ⟨m+1,by omega,by go_num,hb2,hG.alloc _,hO2,hN2⟩
    case measure=>simp [intOf]; omega
  ·obtain rfl:m=lo.length:=by omega
   rw [part_all] at hb
   have kb:¬ (lo.length:Int) < (lo.length:Int):=by omega
   have c2:=blk_cell hb.blk 3
   simp at c2
   have h0:=hb
   have G0:=hG
   have O0:=hO
   have N0:=hN
   clear hb hG hO hN lO lN
   go_wp2
   go_loopw [36] (fun s wr=>∃ m:Nat,m≤st.length∧s=.int .i64 (m:Int)∧BnAt wr B k c ⟨la,lo.length,lc,sa,st.length,sc⟩ ⟨Ck.turned (k1,n1) (k2,n2) lo,Pk.part (k1,n1) (k2,n2) st m,br⟩∧Bn k w ⟨la,lo.length,lc,sa,st.length,sc⟩ wr ⟨la,lo.length,lc,sa,st.length,sc⟩∧wr.heap[w.heap.size]?=some (.cells #[.int .i64 k1,.int .i64 n1] 48 (0,0))∧wr.heap[w.heap.size+1]?=some (.cells #[.int .i64 k2,.int .i64 n2] 48 (0,0)))
    (fun s _=>st.length - (intOf s).toNat)
   case atStart=>exact ⟨0,by omega,rfl,by rw [part_zero]; exact h0,G0,O0,N0⟩
   case round =>
    clear h0 G0 O0 N0 c2
    obtain ⟨m,hm,rfl,hb,hG,hO,hN⟩:=hrel
    have lO:=lt_of_block hO
    have lN:=lt_of_block hN
    by_cases hmn:m < st.length
    ·have hpl:m < (Pk.part (k1,n1) (k2,n2) st m).length:=by rw [part_len]; exact hmn
     have hg9:=part_get (k1,n1) (k2,n2) st m hmn hpl
     have hss:=part_succ (k1,n1) (k2,n2) st m hmn
     have hsm:=part_same (k1,n1) (k2,n2) st m hmn
     obtain ⟨g,hg,hglt,hgB,y0,y1,z0,z1,-⟩:=tys_set hb.st hpl k2 n2
     subst hg
     have hgw:=hst0 g rfl
     rw [hg9] at y0 y1
     generalize st[m]=x at *
     obtain ⟨t1,t2⟩:=x
     simp only at y0 y1
     have d2:=blk_cell hb.blk 3
     have lK:=hb.k_lt
     have o0:=blk_cell hO 0
     have o1:=blk_cell hO 1
     have q0:=blk_cell hN 0
     have q1:=blk_cell hN 1
     simp at d2 o0 o1 q0 q1
     have kb:(m:Int) < (st.length:Int):=by omega
     by_cases he1:t1=k1
     ·subst he1
      by_cases he2:t2=n1
      ·subst he2
       rw [if_pos rfl] at hss
       have hS:=hb.setSt (g:=g) (q:=m) rfl hpl k2 n2
       rw [← hss] at hS
       have hSA:=hS.1.alloc (.cells #[.int .i64 t1,.int .i64 t2] 48)
       have hsz:((wr.setCell ⟨g,m * 2,none⟩ (.int .i64 k2)).setCell ⟨g,m * 2+1,none⟩ (.int .i64 n2)).heap.size=wr.heap.size:=by simp [World.setCell]
       have hOS:((wr.setCell ⟨g,m * 2,none⟩ (.int .i64 k2)).setCell ⟨g,m * 2+1,none⟩ (.int .i64 n2)).heap[w.heap.size]?=_:=((heap_set_ne (by omega)).trans (heap_set_ne (by omega))).trans hO
       have hNS:((wr.setCell ⟨g,m * 2,none⟩ (.int .i64 k2)).setCell ⟨g,m * 2+1,none⟩ (.int .i64 n2)).heap[w.heap.size+1]?=_:=((heap_set_ne (by omega)).trans (heap_set_ne (by omega))).trans hN
       have a0:(wr.alloc (.cells #[.int .i64 t1,.int .i64 t2] 48)).cell? ⟨w.heap.size+1,0,none⟩=some (.int .i64 k2):=(blk_cell (stay1 hN (.cells #[.int .i64 t1,.int .i64 t2] 48)) 0).trans rfl
       have a1:(wr.alloc (.cells #[.int .i64 t1,.int .i64 t2] 48)).cell? ⟨w.heap.size+1,1,none⟩=some (.int .i64 n2):=(blk_cell (stay1 hN (.cells #[.int .i64 t1,.int .i64 t2] 48)) 1).trans rfl
       have a2:(wr.alloc (.cells #[.int .i64 t1,.int .i64 t2] 48)).cell? ⟨k,3,none⟩=some (.slice (some ⟨g,0,none⟩) st.length sc):=(blk_cell (hb.alloc (.cells #[.int .i64 t1,.int .i64 t2] 48)).blk 3).trans rfl
       have s0:(((wr.setCell ⟨g,m * 2,none⟩ (.int .i64 k2)).setCell ⟨g,m * 2+1,none⟩ (.int .i64 n2)).alloc (.cells #[.int .i64 t1,.int .i64 t2] 48)).cell? ⟨w.heap.size+1,0,none⟩=some (.int .i64 k2):=(blk_cell (stay1 hNS (.cells #[.int .i64 t1,.int .i64 t2] 48)) 0).trans rfl
       have s1:(((wr.setCell ⟨g,m * 2,none⟩ (.int .i64 k2)).setCell ⟨g,m * 2+1,none⟩ (.int .i64 n2)).alloc (.cells #[.int .i64 t1,.int .i64 t2] 48)).cell? ⟨w.heap.size+1,1,none⟩=some (.int .i64 n2):=(blk_cell (stay1 hNS (.cells #[.int .i64 t1,.int .i64 t2] 48)) 1).trans rfl
       have s2:(((wr.setCell ⟨g,m * 2,none⟩ (.int .i64 k2)).setCell ⟨g,m * 2+1,none⟩ (.int .i64 n2)).alloc (.cells #[.int .i64 t1,.int .i64 t2] 48)).cell? ⟨k,3,none⟩=some (.slice (some ⟨g,0,none⟩) st.length sc):=(blk_cell hSA.blk 3).trans rfl
       clear hss hsm hg9 hsz
       go_wp2
       go_region_held3 (fun w'=>w'.cell? ⟨k,3,none⟩=some (.slice (some ⟨g,0,none⟩) st.length sc)∧w'.cell? ⟨w.heap.size+1,0,none⟩=some (.int .i64 k2)∧w'.cell? ⟨w.heap.size+1,1,none⟩=some (.int .i64 n2)) (first | exact ⟨a2,a0,a1⟩ | exact ⟨s2,s0,s1⟩) (fail)
       go_wp2
       go_roundw
       case rel=>exact ⟨m+1,by omega,by go_num,hSA.drew,(((hG.trans hS.2).alloc _).drew),stay1 hOS _,stay1 hNS _⟩
       case measure=>simp [intOf]; omega
      ·have he2':(t2 == n1)=false:=by simp [he2]
       rw [← hsm (by simp; exact he2)] at hb
       have hb2:=hb.alloc (.cells #[.int .i64 t1,.int .i64 t2] 48)
       have hO2:=stay1 hO (.cells #[.int .i64 t1,.int .i64 t2] 48)
       have hN2:=stay1 hN (.cells #[.int .i64 t1,.int .i64 t2] 48)
       clear hss hsm hg9 he2
       go_wp2
       go_roundw
       case rel=>exact ⟨m+1,by omega,by go_num,hb2,hG.alloc _,hO2,hN2⟩
       case measure=>simp [intOf]; omega
     ·have he1':(t1 == k1)=false:=by simp [he1]
      rw [← hsm (by simp; intro e; exact absurd e he1)] at hb
      have hb2:=hb.alloc (.cells #[.int .i64 t1,.int .i64 t2] 48)
      have hO2:=stay1 hO (.cells #[.int .i64 t1,.int .i64 t2] 48)
      have hN2:=stay1 hN (.cells #[.int .i64 t1,.int .i64 t2] 48)
      clear hss hsm hg9 he1
      go_wp2
      go_roundw
      case rel=>exact ⟨m+1,by omega,by go_num,hb2,hG.alloc _,hO2,hN2⟩
      case measure=>simp [intOf]; omega
    ·obtain rfl:m=st.length:=by omega
     rw [part_all] at hb
     have kb:¬ (st.length:Int) < (st.length:Int):=by omega
     clear lO lN
     go_wp2
     go_end0
     exact ⟨rfl,_,hb,hG⟩
end Go.Proofs.YteffpdofcgbokaaGreat

/-
  The walks over the bench: behind, copied, benchFor.
-/
namespace Go.Proofs.YteffpdofcgbokaaGreat
open Go.RowKit

set_option maxRecDepth 100000 in
set_option maxHeartbeats 8000000 in
theorem behind_any (w:World) (B k:Nat) (c:BnC) (v:FrV) (b:Pk.B) (h:BnAt w B k c v b) :
  Calls Tryz.prog 177 #[.pointer (some ⟨k,0,none⟩)] w fun e w'=>∃ u:FrV,e=.returned (.tuple #[u.val,.bool (Pk.out b).isSome])∧(∀ y,Pk.out b=some y→u=v∧y=⟨b.lo,b.st⟩)∧BnAt w' B k c v b∧Bn k w v w' v:=by
 have hkl:=h.k_lt
 have hBl:=h.B_le
 have hnew:=h.new (Nat.le_refl _)
 have c2:=blk_cell h.blk 2
 have c3:=blk_cell h.blk 3
 have c5:=blk_cell h.blk 5
 simp at c2 c3 c5
 obtain ⟨lo,st,br⟩:=b
 obtain ⟨la,ln,lc,sa,sn,sc⟩:=v
 simp only at c2 c3 c5
 have R0:=alloc_blk w (.cells #[.slice none 0 0,.slice none 0 0] 149)
 cases br with
 | true =>
  rw [out_br rfl]
  go_enter Tryz.func177,Tryz.ntmps177
  go_wp2
  refine bodyPost_ret (v:=.tuple #[.agg #[.slice none 0 0,.slice none 0 0],.bool false]) (by simp [results,Tryz.results177,go_sem]) rfl ?_
  exact ⟨⟨none,0,0,none,0,0⟩,rfl,fun y hy=>by simp at hy,h.alloc _,(Bn.refl _ _ _).alloc _⟩
 | false =>
  rw [out_ok rfl]
  have a2:(w.alloc (.cells #[.slice none 0 0,.slice none 0 0] 149)).cell? ⟨k,2,none⟩=some (.slice la ln lc):=(blk_cell (h.alloc (.cells #[.slice none 0 0,.slice none 0 0] 149)).blk 2).trans rfl
  have a3:(w.alloc (.cells #[.slice none 0 0,.slice none 0 0] 149)).cell? ⟨k,3,none⟩=some (.slice sa sn sc):=(blk_cell (h.alloc (.cells #[.slice none 0 0,.slice none 0 0] 149)).blk 3).trans rfl
  have b2:(w.alloc (.cells #[.slice la ln lc,.slice sa sn sc] 149)).cell? ⟨k,2,none⟩=some (.slice la ln lc):=(blk_cell (h.alloc (.cells #[.slice la ln lc,.slice sa sn sc] 149)).blk 2).trans rfl
  have b3:(w.alloc (.cells #[.slice la ln lc,.slice sa sn sc] 149)).cell? ⟨k,3,none⟩=some (.slice sa sn sc):=(blk_cell (h.alloc (.cells #[.slice la ln lc,.slice sa sn sc] 149)).blk 3).trans rfl
  go_enter Tryz.func177,Tryz.ntmps177
  go_wp2
  go_region_held3 (fun w'=>w'.cell? ⟨k,2,none⟩=some (.slice la ln lc)∧w'.cell? ⟨k,3,none⟩=some (.slice sa sn sc)) (first | exact ⟨a2,a3⟩ | exact ⟨b2,b3⟩) (fail)
  go_wp2
  refine bodyPost_ret (v:=.tuple #[.agg #[.slice la ln lc,.slice sa sn sc],.bool true]) (by simp [results,Tryz.results177,go_sem]) rfl ?_
  exact ⟨⟨la,ln,lc,sa,sn,sc⟩,rfl,fun y hy=>⟨rfl,(Option.some.inj hy).symm⟩,(h.alloc _).drew,((Bn.refl _ _ _).alloc _).drew⟩

set_option maxRecDepth 100000 in
set_option maxHeartbeats 8000000 in
theorem copied_any (l:List (Int × Int)) (a:Option Addr) (n cp:Nat) (w:World) (hl:l.length≤10000) (h:TyR w (.slice a n cp) l) :
  Calls Tryz.prog 198 #[.slice a n cp] w fun e w'=>∃ va vc,e=.returned (.slice va l.length vc)∧TysAt w' w.heap.size (.slice va l.length vc) l∧Below w.heap.size w w':=by
 go_enter Tryz.func198,Tryz.ntmps198
 go_wp2_with (at_builtin; refine append_tyr rfl _ _ rfl w.heap.size _ [] l a n cp rfl (World.ownsRow_nil _ _ _ _) rfl h (by simp; omega) (Nat.le_refl _) ?_)
 intro v' w2 hown2 hgrow
 obtain ⟨va,vc,rfl⟩:=own_shape hown2
 go_wp2
 go_ret
 exact ⟨va,vc,rfl,hown2,(Below.refl _ _).grown hgrow (Nat.le_refl _) (fun j hj=>by cases hj)⟩

theorem txcells {w:World}{k1 k2:Nat}{a1 a2 b1 b2:Option Addr}{m1 d1 m2 d2 m3 d3 m4 d4:Nat}{t1 t2:TypeId} (hT:w.heap[k1]?=some (.cells #[.slice a1 m1 d1,.slice a2 m2 d2] t1 (0,0))) (hX:w.heap[k2]?=some (.cells #[.slice b1 m3 d3,.slice b2 m4 d4] t2 (0,0))) :
  w.cell? ⟨k1,0,none⟩=some (.slice a1 m1 d1)∧w.cell? ⟨k1,1,none⟩=some (.slice a2 m2 d2)∧w.cell? ⟨k2,0,none⟩=some (.slice b1 m3 d3)∧w.cell? ⟨k2,1,none⟩=some (.slice b2 m4 d4):=by
 refine ⟨?_,?_,?_,?_⟩
 ·rw [blk_cell hT]; rfl
 ·rw [blk_cell hT]; rfl
 ·rw [blk_cell hX]; rfl
 ·rw [blk_cell hX]; rfl

theorem own_base {b b' size n:Nat}{t:TypeId}{v:Value}{xs:List Value}{w:World} (h:w.ownsRow b t size v n xs) (hb:b'≤b):w.ownsRow b' t size v n xs:=by
 obtain ⟨e1,e2 | ⟨g,cap,cur,a,c,d,r⟩⟩:=h
 ·exact ⟨e1,.inl e2⟩
 ·exact ⟨e1,.inr ⟨g,cap,cur,a,Nat.le_trans hb c,d,r⟩⟩

set_option maxRecDepth 100000 in
set_option maxHeartbeats 8000000 in
theorem benchFor_any (c:BnC) (v:FrV) (x:Ck.Fr) (w:World) (hx:v.is x w) :
  Calls Tryz.prog 165 #[.agg #[.slice (some ⟨c.tg,0,none⟩) c.T.length c.tc,.slice c.ya c.yn c.yc],v.val,.int .i64 c.hi] w fun e w'=>∃ u:FrV,
   e=.returned (.agg #[.slice (some ⟨c.tg,0,none⟩) c.T.length c.tc,.slice c.ya c.yn c.yc,.slice u.la u.ln u.lc,.slice u.sa u.sn u.sc,.int .i64 c.hi,.bool false]) ∧
   TysAt w' w.heap.size u.lv x.locals∧TysAt w' w.heap.size u.sv x.stack∧(∀ j,u.lv.ownBlock=some j→u.sv.ownBlock ≠ some j)∧Below w.heap.size w w':=by
 have hC1:=fun w' (h:Below w.heap.size w w')=>copied_any x.locals v.la v.ln v.lc w' (by have:=hx.hl; omega) (hx.lo.below h)
 have hC2:=fun w' (h:Below w.heap.size w w')=>copied_any x.stack v.sa v.sn v.sc w' (by have:=hx.hs; omega) (hx.st.below h)
 obtain ⟨la,ln,lc,sa,sn,sc⟩:=v
 simp only [FrV.val] at hC1 hC2 ⊢
 have HC1:=hide hC1
 have HC2:=hide hC2
 clear hC1 hC2 hx
 have hB0:=below3 w (.cells #[.slice (some ⟨c.tg,0,none⟩) c.T.length c.tc,.slice c.ya c.yn c.yc] 87) (.cells #[.slice la ln lc,.slice sa sn sc] 149) (.cells #[.slice none 0 0,.slice none 0 0,.slice none 0 0,.slice none 0 0,.int .i64 0,.bool false] 261)
 obtain ⟨T0,X0,Z0⟩:=blks3 w (.cells #[.slice (some ⟨c.tg,0,none⟩) c.T.length c.tc,.slice c.ya c.yn c.yc] 87) (.cells #[.slice la ln lc,.slice sa sn sc] 149) (.cells #[.slice none 0 0,.slice none 0 0,.slice none 0 0,.slice none 0 0,.int .i64 0,.bool false] 261)
 have t0:(((w.alloc (.cells #[.slice (some ⟨c.tg,0,none⟩) c.T.length c.tc,.slice c.ya c.yn c.yc] 87)).alloc (.cells #[.slice la ln lc,.slice sa sn sc] 149)).alloc (.cells #[.slice none 0 0,.slice none 0 0,.slice none 0 0,.slice none 0 0,.int .i64 0,.bool false] 261)).cell? ⟨w.heap.size,0,none⟩=some (.slice (some ⟨c.tg,0,none⟩) c.T.length c.tc):=(blk_cell T0 0).trans rfl
 have t1:(((w.alloc (.cells #[.slice (some ⟨c.tg,0,none⟩) c.T.length c.tc,.slice c.ya c.yn c.yc] 87)).alloc (.cells #[.slice la ln lc,.slice sa sn sc] 149)).alloc (.cells #[.slice none 0 0,.slice none 0 0,.slice none 0 0,.slice none 0 0,.int .i64 0,.bool false] 261)).cell? ⟨w.heap.size,1,none⟩=some (.slice c.ya c.yn c.yc):=(blk_cell T0 1).trans rfl
 have x0:(((w.alloc (.cells #[.slice (some ⟨c.tg,0,none⟩) c.T.length c.tc,.slice c.ya c.yn c.yc] 87)).alloc (.cells #[.slice la ln lc,.slice sa sn sc] 149)).alloc (.cells #[.slice none 0 0,.slice none 0 0,.slice none 0 0,.slice none 0 0,.int .i64 0,.bool false] 261)).cell? ⟨w.heap.size+1,0,none⟩=some (.slice la ln lc):=(blk_cell X0 0).trans rfl
 have x1:(((w.alloc (.cells #[.slice (some ⟨c.tg,0,none⟩) c.T.length c.tc,.slice c.ya c.yn c.yc] 87)).alloc (.cells #[.slice la ln lc,.slice sa sn sc] 149)).alloc (.cells #[.slice none 0 0,.slice none 0 0,.slice none 0 0,.slice none 0 0,.int .i64 0,.bool false] 261)).cell? ⟨w.heap.size+1,1,none⟩=some (.slice sa sn sc):=(blk_cell X0 1).trans rfl
 have lT:=lt_of_block T0
 have lX:=lt_of_block X0
 go_enter Tryz.func165,Tryz.ntmps165
 go_wp2
 go_region_held3 (fun w'=>w'.cell? ⟨w.heap.size,0,none⟩=some (.slice (some ⟨c.tg,0,none⟩) c.T.length c.tc)∧w'.cell? ⟨w.heap.size,1,none⟩=some (.slice c.ya c.yn c.yc)∧w'.cell? ⟨w.heap.size+1,0,none⟩=some (.slice la ln lc)∧w'.cell? ⟨w.heap.size+1,1,none⟩=some (.slice sa sn sc))
  (exact txcells (by repeat (first | (with_reducible refine (heap_set_ne (by omega)).trans ?_) | (with_reducible refine stay hb5 ?_) | (with_reducible refine stay hb6 ?_) | exact T0)) (by repeat (first | (with_reducible refine (heap_set_ne (by omega)).trans ?_) | (with_reducible refine stay hb5 ?_) | (with_reducible refine stay hb6 ?_) | exact X0)))
  (first | (go_at_call 198; refine (unhide HC1 _ (by first | exact hB0.drew | exact hBs)).mono ?_; rintro e w5 ⟨va1,vc1,rfl,ht5,hb5⟩; have hBl:Below w.heap.size w w5:=(fun hP=>Below.trans hP (hb5.mono (Below.size hP))) (by first | exact hB0.drew | exact hBs); have Zl:=stay hb5 (by first | exact Z0 | exact Zs); have z0:=blk_cell Zl 0; have q0:=blk_free Zl 0; have z1:=blk_cell Zl 1; have q1:=blk_free Zl 1; have z2:=blk_cell Zl 2; have q2:=blk_free Zl 2; have z3:=blk_cell Zl 3; have q3:=blk_free Zl 3; have z4:=blk_cell Zl 4; have q4:=blk_free Zl 4; have z5:=blk_cell Zl 5; have q5:=blk_free Zl 5; simp at z0 z1 z2 z3 z4 z5) | (go_at_call 198; refine (unhide HC2 _ (by first | exact hB0.drew | exact hBl)).mono ?_; rintro e w6 ⟨va2,vc2,rfl,ht6,hb6⟩; have hBs:Below w.heap.size w w6:=(fun hP=>Below.trans hP (hb6.mono (Below.size hP))) (by first | exact hB0.drew | exact hBl); have Zs:=stay hb6 (by first | exact Z0 | exact Zl); have z0:=blk_cell Zs 0; have q0:=blk_free Zs 0; have z1:=blk_cell Zs 1; have q1:=blk_free Zs 1; have z2:=blk_cell Zs 2; have q2:=blk_free Zs 2; have z3:=blk_cell Zs 3; have q3:=blk_free Zs 3; have z4:=blk_cell Zs 4; have q4:=blk_free Zs 4; have z5:=blk_cell Zs 5; have q5:=blk_free Zs 5; simp at z0 z1 z2 z3 z4 z5))
 have hz5:∀ j,(Value.slice va1 x.locals.length vc1).ownBlock=some j→w.heap.size+3≤j∧j < w5.heap.size:=fun j hj=>by
  have:=ht5.lt j hj
  simp at this
  omega
 have hz6:∀ j,(Value.slice va2 x.stack.length vc2).ownBlock=some j→w5.heap.size≤j:=fun j hj=>(ht6.lt j hj).1
 have hs5:=hBl.size
 have lZ:=lt_of_block Zl
 have lr:=lt_of_block Zs
 go_wp2_with fail
 refine bodyPost_ret (v:=.agg #[.slice (some ⟨c.tg,0,none⟩) c.T.length c.tc,.slice c.ya c.yn c.yc,.slice va1 x.locals.length vc1,.slice va2 x.stack.length vc2,.int .i64 c.hi,.bool false]) (by simp [results,Tryz.results165,go_sem,z0,z1,z2,z3,z4,z5]) rfl ?_
 refine ⟨⟨va1,x.locals.length,vc1,va2,x.stack.length,vc2⟩,rfl,?_,?_,fun j hj hj'=>?_,?_⟩
 ·refine own_at (own_base (own_at ht5 (fun j hj=>hb6.block j (hz5 j hj).2)) (by simp; omega)) (fun j hj=>?_)
  have:=hz5 j hj
  repeat (with_reducible refine (heap_set_ne (by omega)).trans ?_)
  rfl
 ·refine own_at (own_base ht6 hs5) (fun j hj=>?_)
  have:=hz6 j hj
  repeat (with_reducible refine (heap_set_ne (by omega)).trans ?_)
  rfl
 ·have:=hz5 j hj
  have:=hz6 j hj'
  omega
 ·repeat (with_reducible refine Below.setCell ?_ (by simp; omega) _)
  exact hBs
end Go.Proofs.YteffpdofcgbokaaGreat

/-
  The walks over package rules: whole, null, ref, raw, given, named, isNewOf.
-/
namespace Go.Proofs.YteffpdofcgbokaaGreat
open Go.RowKit

set_option maxRecDepth 100000 in
set_option maxHeartbeats 1000000 in
theorem pwhole_any (w:World):Calls Tryz.prog 201 #[] w fun e w'=>e=.returned (.agg #[.int .i64 1,.int .i64 0])∧Below w.heap.size w w':=by
 go_enter Tryz.func201,Tryz.ntmps201
 go_wp2
 refine bodyPost_ret (v:=.agg #[.int .i64 1,.int .i64 0]) (by simp [results,Tryz.results201,go_sem]) rfl ?_
 exact ⟨rfl,by repeat (first | refine Below.setCell ?_ (by simp) _ | refine Below.alloc ?_ (by simp) _ | exact Below.refl _ _)⟩
set_option maxRecDepth 100000 in
set_option maxHeartbeats 1000000 in
theorem pnull_any (w:World):Calls Tryz.prog 205 #[] w fun e w'=>e=.returned (.agg #[.int .i64 2,.int .i64 0])∧Below w.heap.size w w':=by
 go_enter Tryz.func205,Tryz.ntmps205
 go_wp2
 refine bodyPost_ret (v:=.agg #[.int .i64 2,.int .i64 0]) (by simp [results,Tryz.results205,go_sem]) rfl ?_
 exact ⟨rfl,by repeat (first | refine Below.setCell ?_ (by simp) _ | refine Below.alloc ?_ (by simp) _ | exact Below.refl _ _)⟩
set_option maxRecDepth 100000 in
set_option maxHeartbeats 1000000 in
theorem pref_any (c:Int) (w:World):Calls Tryz.prog 116 #[.int .i64 c] w fun e w'=>e=.returned (.agg #[.int .i64 3,.int .i64 c])∧Below w.heap.size w w':=by
 go_enter Tryz.func116,Tryz.ntmps116
 go_wp2
 refine bodyPost_ret (v:=.agg #[.int .i64 3,.int .i64 c]) (by simp [results,Tryz.results116,go_sem]) rfl ?_
 exact ⟨rfl,by repeat (first | refine Below.setCell ?_ (by simp) _ | refine Below.alloc ?_ (by simp) _ | exact Below.refl _ _)⟩
set_option maxRecDepth 100000 in
set_option maxHeartbeats 1000000 in
theorem praw_any (c:Int) (w:World):Calls Tryz.prog 171 #[.int .i64 c] w fun e w'=>e=.returned (.agg #[.int .i64 4,.int .i64 c])∧Below w.heap.size w w':=by
 go_enter Tryz.func171,Tryz.ntmps171
 go_wp2
 refine bodyPost_ret (v:=.agg #[.int .i64 4,.int .i64 c]) (by simp [results,Tryz.results171,go_sem]) rfl ?_
 exact ⟨rfl,by repeat (first | refine Below.setCell ?_ (by simp) _ | refine Below.alloc ?_ (by simp) _ | exact Below.refl _ _)⟩

/-- a row's block is new, or lower than B -/
def NewOr (a:Option Addr) (n B:Nat):Prop:=∀ g o,a=some ⟨g,o,none⟩→n≤g∨g < B

set_option maxRecDepth 100000 in
set_option maxHeartbeats 4000000 in
theorem pgiven_any (m:PM) (w:World):Calls Tryz.prog 204 #[m.val] w fun e w'=>∃ a c,e=.returned (.slice a (Ck.gives (m.r1,m.r2)).length c)∧TyR w' (.slice a (Ck.gives (m.r1,m.r2)).length c) (Ck.gives (m.r1,m.r2))∧NewOr a w.heap.size 0∧Below w.heap.size w w':=by
 obtain ⟨cl,nm,pa,pl,pc,r1,r2,lo,st,ca,cn,cc,ha,hl,hc,ma,ml,mc⟩:=m
 simp only [PM.val]
 unfold Ck.gives
 by_cases h:r1=0
 ·subst h
  simp only [if_true]
  go_enter Tryz.func204,Tryz.ntmps204
  go_wp2
  go_ret
  exact ⟨none,0,rfl,TyR.nil _,fun g o e=>(by cases e),(Below.refl _ _).alloc (Nat.le_refl _) _⟩
 ·have h':(r1 == 0)=false:=by simp [h]
  simp only [h,if_false]
  have hB:=below2 w (.cells #[.int .i64 cl,.int .i64 nm,.slice pa pl pc,.int .i64 r1,.int .i64 r2,.int .i64 lo,.int .i64 st,.slice ca cn cc,.slice ha hl hc,.slice ma ml mc] 92) (.cells #[.int .i64 r1,.int .i64 r2] 48)
  have hT:=TyR.new1 (w.alloc (.cells #[.int .i64 cl,.int .i64 nm,.slice pa pl pc,.int .i64 r1,.int .i64 r2,.int .i64 lo,.int .i64 st,.slice ca cn cc,.slice ha hl hc,.slice ma ml mc] 92)) r1 r2
  clear h
  go_enter Tryz.func204,Tryz.ntmps204
  go_wp2
  go_ret
  exact ⟨some ⟨w.heap.size+1,0,none⟩,1,rfl,by simpa using hT,fun g o e=>(by simp at e; omega),hB⟩

/-- what the rules lean on: the methods, the tree with its fields, the instructions -/
structure Ru (b:PBd) (w:World) (bb:Nat) (lm:List (Rd.Mth × MthV)) (fl:List (Value × List (Int × Int))):Prop where
 ml:b.fl2=lm.length
 m6:lm.length≤1000
 ms:MthsIn w bb (.slice b.fa2 b.fl2 b.fc2) lm
 yl:b.yn=fl.length
 y14:fl.length≤14
 yf:∀ p∈fl,p.2.length≤1000
 fs:FldsIn w bb (.slice b.ya b.yn b.yc) fl
 tl:b.T.length≤1000
 tr:TreeIn w b.tg b.T
 ll:b.L.length≤100000
 ins:InsAt w bb (.slice b.la b.L.length b.lc) b.L
theorem Ru.below {b:PBd}{w w':World}{bb:Nat}{lm:List (Rd.Mth × MthV)}{fl:List (Value × List (Int × Int))} (h:Ru b w bb lm fl) (hb:Below w.heap.size w w'):Ru b w' bb lm fl :=
 ⟨h.ml,h.m6,h.ms.kp (Kp.of_below (e:=none) hb) (by decide) (by decide) (by decide) (by decide) (by decide),h.yl,h.y14,h.yf,h.fs.below hb,h.tl,h.tr.below hb,h.ll,h.ins.kp (Kp.of_below (e:=none) hb) (by decide)⟩

/-- the k-th method of a list, and where its params lie -/
theorem MthsIn.mth2 {w:World}{b:Nat}{a:Option Addr}{n c:Nat}{l:List (Rd.Mth × MthV)} (h:MthsIn w b (.slice a n c) l) {k:Nat} (hk:k < l.length) :
  ∃ (m:PM) (g:Nat),a=some ⟨g,0,none⟩∧g < w.heap.size∧(∀ j v,m.list[j]?=some v→w.cell? ⟨g,k * 10+j,none⟩=some v)∧m.is l[k].1 w b∧(.slice m.pa m.pl m.pc:Value)=l[k].2.params:=by
 obtain ⟨hrow,hall⟩:=h
 obtain ⟨xa,xc,hsh⟩:=own_shape hrow
 simp only [Value.slice.injEq] at hsh
 obtain ⟨rfl,rfl,rfl⟩:=hsh
 obtain ⟨g,hg,hglt,_,hcell⟩:=own_some hrow (by omega)
 obtain ⟨hp,hc,hh,lm,hlm,hm⟩:=hall _ (List.getElem_mem hk)
 have hat:=fun j hj=>ms10 l k hk j hj
 generalize l[k]=x at *
 obtain ⟨x,u⟩:=x
 obtain ⟨up,uc,uh,um⟩:=u
 simp only at hp hc hh hm hat
 obtain ⟨pa,pc,rfl⟩:=own_shape hp
 obtain ⟨ca,cc,rfl⟩:=own_shape hc
 obtain ⟨ha,hc',rfl⟩:=own_shape hh
 obtain ⟨ma,mc,rfl⟩:=own_shape hm.1
 have hml:lm.length=x.maps.length:=by rw [← hlm]; simp
 refine ⟨⟨x.cl,x.name,pa,x.params.length,pc,x.result.1,x.result.2,x.locals,x.stack,ca,x.code.length,cc,ha,x.handlers.length,hc',ma,lm.length,mc⟩,g,hg,hglt,?_,⟨rfl,rfl,rfl,rfl,rfl,rfl,rfl,hp,rfl,hc,rfl,hh,hml,lm,hlm,hm⟩,rfl⟩
 intro j v hv
 have hj:j < 10:=by
  have:=(List.getElem?_eq_some_iff.1 hv).1
  simpa [PM.list] using this
 obtain ⟨e1,e2⟩:=hat j hj
 rw [hcell _ e2,e1,← hv]
 rfl

set_option maxRecDepth 100000 in
set_option maxHeartbeats 8000000 in
theorem pnamed_any (b:PBd) (bb:Nat) (lm:List (Rd.Mth × MthV)) (fl:List (Value × List (Int × Int))) (n:Nat) (w:World) (h:Ru b w bb lm fl) (hn:n < lm.length) :
  Calls Tryz.prog 203 #[b.val,.int .i64 (n:Int)] w fun e w'=>∃ m:PM,e=.returned m.val∧m.is lm[n].1 w' bb∧(.slice m.pa m.pl m.pc:Value)=lm[n].2.params∧Below w.heap.size w w':=by
 obtain ⟨q,g,hg,hglt,hcells,hq,hqp⟩:=h.ms.mth2 hn
 obtain ⟨y0,y1,y2,y3,y4,y5,y6,y7,y8,y9⟩:=row10 hcells
 have hml:=h.ml
 have hyl:=h.yl
 obtain ⟨fa1,fl1,fc1,fa2,fl2,fc2,tg,tc,ya,yn,yc,cl,nm,pa,pl,pc,r1,r2,lo,st,ca,cn,cc,ha,hl,hc,ma,ml,mc,la,lc,T,L⟩:=b
 simp only at hml hyl hg
 subst hml hyl hg
 simp only [PBd.val]
 generalize lm[n]=x at *
 have kb:(n:Int) < (lm.length:Int):=by omega
 have hn0:¬ (n:Int) < 0:=by omega
 obtain ⟨q1,q2,q3,q4,q5,q6,q7,q8,q9,qa,qb,qc,qd,qe,qf,qg,qh,qi⟩:=q
 simp only at y0 y1 y2 y3 y4 y5 y6 y7 y8 y9 hqp
 have HQP:=hide hqp
 clear hcells h hqp
 go_enter Tryz.func203,Tryz.ntmps203
 go_wp2
 refine bodyPost_ret (v:=.agg #[.int .i64 q1,.int .i64 q2,.slice q3 q4 q5,.int .i64 q6,.int .i64 q7,.int .i64 q8,.int .i64 q9,.slice qa qb qc,.slice qd qe qf,.slice qg qh qi]) (by simp [results,Tryz.results203,go_sem]) rfl ?_
 exact ⟨⟨q1,q2,q3,q4,q5,q6,q7,q8,q9,qa,qb,qc,qd,qe,qf,qg,qh,qi⟩,rfl,hq.below (below2 _ _ _),unhide HQP,below2 _ _ _⟩

/-- is there a New of a class at a place, as the program tells it -/
def Pk.isNew (L:List Cd.Ins) (c place:Int):Bool:=(Cd.findAt place L).isSome && ((Cd.orZero (Cd.findAt place L)).op == 15) && ((Cd.orZero (Cd.findAt place L)).n == c)

set_option maxRecDepth 100000 in
set_option maxHeartbeats 8000000 in
theorem pisNew_any (b:PBd) (bb:Nat) (lm:List (Rd.Mth × MthV)) (fl:List (Value × List (Int × Int))) (place c:Int) (w:World) (h:Ru b w bb lm fl) :
  Calls Tryz.prog 200 #[b.val,.int .i64 place,.int .i64 c] w fun e w'=>e=.returned (.bool (Pk.isNew b.L c place))∧Below w.heap.size w w':=by
 have hat:=fun w' (hb:Below w.heap.size w w')=>cAt_any b.L b.la b.lc bb place w' h.ll (h.below hb).ins
 unfold Pk.isNew
 generalize Cd.findAt place b.L=r at *
 obtain ⟨fa1,fl1,fc1,fa2,fl2,fc2,tg,tc,ya,yn,yc,cl,nm,pa,pl,pc,r1,r2,lo,st,ca,cn,cc,ha,hl,hc,ma,ml,mc,la,lc,T,L⟩:=b
 simp only [PBd.val] at hat ⊢
 have HAT:=hide hat
 clear hat h
 cases r with
 | none =>
  go_enter Tryz.func200,Tryz.ntmps200
  go_wp2_with fail
  refine (unhide HAT _ ((Below.refl _ _).alloc (Nat.le_refl _) _)).mono ?_
  rintro e w1 ⟨rfl,hb1⟩
  have hB1:=((Below.refl w.heap.size w).alloc (Nat.le_refl _) _).trans (hb1.mono (by simp))
  go_wp2
  go_ret
  exact ⟨rfl,hB1.alloc hB1.size _⟩
 | some x =>
  obtain ⟨xp,xo,xn⟩:=x
  simp only [Cd.orZero] at HAT ⊢
  by_cases ho:xo=15
  ·subst ho
   go_enter Tryz.func200,Tryz.ntmps200
   go_wp2_with fail
   refine (unhide HAT _ ((Below.refl _ _).alloc (Nat.le_refl _) _)).mono ?_
   rintro e w1 ⟨rfl,hb1⟩
   have hB1:=((Below.refl w.heap.size w).alloc (Nat.le_refl _) _).trans (hb1.mono (by simp))
   go_wp2
   go_ret
   exact ⟨by simp,hB1.alloc hB1.size _⟩
  ·have ho':(xo == 15)=false:=by simp [ho]
   clear ho
   rw [ho']
   go_enter Tryz.func200,Tryz.ntmps200
   go_wp2_with fail
   refine (unhide HAT _ ((Below.refl _ _).alloc (Nat.le_refl _) _)).mono ?_
   rintro e w1 ⟨rfl,hb1⟩
   have hB1:=((Below.refl w.heap.size w).alloc (Nat.le_refl _) _).trans (hb1.mono (by simp))
   go_wp2
   go_ret
   exact ⟨rfl,hB1.alloc hB1.size _⟩
end Go.Proofs.YteffpdofcgbokaaGreat

/-
  The walks over package rules: takes, leaves.
-/
namespace Go.Proofs.YteffpdofcgbokaaGreat
open Go.RowKit

/-- what an instruction asks for, as the program tells it; fs: each class's own fields -/
def Pk.takes (fs:List (List (Int × Int))) (ms:List Rd.Mth) (res:Int × Int) (op n:Int):List (Int × Int) :=
 if op=7∨op=8∨op=9∨op=10∨op=13 then [(1,0),(1,0)] else if op=12∨op=25 then [(1,0)] else if op=14∨op=19 then [(3,0)]
 else if op=17 then [(3,(Pk.field fs n).1)] else if op=18 then [(3,(Pk.field fs n).1),(Pk.field fs n).2]
 else if op=20 then (ms.getD n.toNat ⟨0,0,[],(0,0),0,0,[],[],[]⟩).params else if op=21 then (3,(ms.getD n.toNat ⟨0,0,[],(0,0),0,0,[],[],[]⟩).cl) :: (ms.getD n.toNat ⟨0,0,[],(0,0),0,0,[],[],[]⟩).params
 else if op=22 then Ck.gives res else if op=23 then [(3,1)] else []
def Pk.leaves (fs:List (List (Int × Int))) (ms:List Rd.Mth) (op n:Int):List (Int × Int) :=
 if op=0∨op=24∨op=7∨op=8∨op=9∨op=10 then [(1,0)] else if op=1 then [(2,0)] else if op=17 then [(Pk.field fs n).2]
 else if op=19 then [(3,n)] else if op=20∨op=21 then Ck.gives (ms.getD n.toNat ⟨0,0,[],(0,0),0,0,[],[],[]⟩).result else []

set_option maxRecDepth 100000 in
set_option maxHeartbeats 40000000 in
theorem ptakes_any (b:PBd) (bb B:Nat) (lm:List (Rd.Mth × MthV)) (fl:List (Value × List (Int × Int))) (pp op:Int) (n:Nat) (w:World) (h:Ru b w bb lm fl) (hn:n≤100000) (hB:∀ p∈lm,∀ g,p.2.params.ownBlock=some g→g < B) (hps:∀ p∈lm,p.1.params.length≤1000)
  (hN2:op=20∨op=21→n < lm.length) :
  Calls Tryz.prog 173 #[b.val,.agg #[.int .i64 pp,.int .i64 op,.int .i64 (n:Int)]] w fun e w'=>∃ a c,e=.returned (.slice a (Pk.takes (fl.map Prod.snd) (lm.map Prod.fst) (b.r1,b.r2) op (n:Int)).length c)∧TyR w' (.slice a (Pk.takes (fl.map Prod.snd) (lm.map Prod.fst) (b.r1,b.r2) op (n:Int)).length c) (Pk.takes (fl.map Prod.snd) (lm.map Prod.fst) (b.r1,b.r2) op (n:Int))∧NewOr a w.heap.size B∧Below w.heap.size w w':=by
 have hFi:=fun w' (hb:Below w.heap.size w w')=>field_any (aa:=some ⟨b.tg,0,none⟩) (an:=b.T.length) (ac:=b.tc) fl bb b.ya b.yc (n:Int) w' (by have:=h.y14; omega) ⟨by omega,by omega⟩ h.yf (by have:=(h.below hb).fs; rw [h.yl] at this; exact this)
 have hNm:=fun (hl:n < lm.length) w' (hb:Below w.heap.size w w')=>pnamed_any b bb lm fl n w' (h.below hb) hl
 have hGv:=fun (m:PM) w'=>pgiven_any m w'
 have hml:=h.ml
 have hyl:=h.yl
 have hmth:=h.ms
 obtain ⟨fa1,fl1,fc1,fa2,fl2,fc2,tg,tc,ya,yn,yc,cl,nm,pa,pl,pc,r1,r2,lo,st,ca,cn,cc,ha,hl,hc,ma,ml,mc,la,lc,T,L⟩:=b
 simp only at hml hyl hmth
 subst hml hyl
 simp only [PBd.val,PM.val] at hFi hNm hGv ⊢
 generalize hres:Pk.takes (fl.map Prod.snd) (lm.map Prod.fst) (r1,r2) op (n:Int)=R
 unfold Pk.takes at hres
 have hgd:∀ hl:n < lm.length,(lm.map Prod.fst).getD ((n:Nat):Int).toNat ⟨0,0,[],(0,0),0,0,[],[],[]⟩=lm[n].1:=fun hl=>by simp [List.getD_eq_getElem?_getD,hl]
 generalize Pk.field (fl.map Prod.snd) (n:Int)=FD at *
 obtain ⟨fo,ft1,ft2⟩:=FD
 simp only at hFi hres
 have HRES:=hide hres
 have HFI:=hide hFi
 have HNM:=hide hNm
 have HGV:=hide hGv
 have HGD:=hide hgd
 have HBB:=hide hB
 have HPS:=hide hps
 have hN2':=hide hN2
 clear hFi hNm hGv hres h hgd hB hps hN2
 have hB0:=below2 w (.cells #[.slice fa1 fl1 fc1,.slice fa2 lm.length fc2,.slice (some ⟨tg,0,none⟩) T.length tc,.slice ya fl.length yc,.int .i64 cl,.int .i64 nm,.slice pa pl pc,.int .i64 r1,.int .i64 r2,.int .i64 lo,.int .i64 st,.slice ca cn cc,.slice ha hl hc,.slice ma ml mc,.slice la L.length lc] 97) (.cells #[.int .i64 pp,.int .i64 op,.int .i64 (n:Int)] 145)
 have U0:=alloc1_blk w (.cells #[.slice fa1 fl1 fc1,.slice fa2 lm.length fc2,.slice (some ⟨tg,0,none⟩) T.length tc,.slice ya fl.length yc,.int .i64 cl,.int .i64 nm,.slice pa pl pc,.int .i64 r1,.int .i64 r2,.int .i64 lo,.int .i64 st,.slice ca cn cc,.slice ha hl hc,.slice ma ml mc,.slice la L.length lc] 97) (.cells #[.int .i64 pp,.int .i64 op,.int .i64 (n:Int)] 145)
 have I0:=alloc2_blk w (.cells #[.slice fa1 fl1 fc1,.slice fa2 lm.length fc2,.slice (some ⟨tg,0,none⟩) T.length tc,.slice ya fl.length yc,.int .i64 cl,.int .i64 nm,.slice pa pl pc,.int .i64 r1,.int .i64 r2,.int .i64 lo,.int .i64 st,.slice ca cn cc,.slice ha hl hc,.slice ma ml mc,.slice la L.length lc] 97) (.cells #[.int .i64 pp,.int .i64 op,.int .i64 (n:Int)] 145)
 by_cases hop:op=7∨op=8∨op=9∨op=10∨op=13
 ·rcases hop with rfl | rfl | rfl | rfl | rfl
  all_goals
   have HE:Hid (R=[(1,0),(1,0)]):=by unfold Hid; rw [← unhide HRES]; simp
   go_enter Tryz.func173,Tryz.ntmps173
   go_wp2_with fail
   refine (pwhole_any _).mono ?_
   rintro e w1 ⟨rfl,hb1⟩
   have hB1:=hB0.trans (hb1.mono hB0.size)
   have hs1:=hB1.size
   go_wp2_with fail
   refine (pwhole_any _).mono ?_
   rintro e w2 ⟨rfl,hb2⟩
   have hB2:=hB1.trans (hb2.mono hs1)
   have hs2:=hB2.size
   have hBf:=hB2.alloc hs2 (.cells #[.int .i64 1,.int .i64 0,.int .i64 1,.int .i64 0] 48)
   go_wp2
   go_ret
   rw [unhide HE]
   exact ⟨some ⟨w2.heap.size,0,none⟩,2,rfl,TyR.new2 w2 _ _ _ _,fun g o e=>(by simp at e; omega),hBf⟩
 have n7:(op == 7)=false:=by simp; omega
 have n8:(op == 8)=false:=by simp; omega
 have n9:(op == 9)=false:=by simp; omega
 have n10:(op == 10)=false:=by simp; omega
 have n13:(op == 13)=false:=by simp; omega
 have i7:¬ (op=7∨op=8∨op=9∨op=10∨op=13):=hop
 clear hop
 by_cases hop:op=12∨op=25
 ·rcases hop with rfl | rfl
  all_goals
   have HE:Hid (R=[(1,0)]):=by unfold Hid; rw [← unhide HRES]; simp
   go_enter Tryz.func173,Tryz.ntmps173
   go_wp2_with fail
   refine (pwhole_any _).mono ?_
   rintro e w1 ⟨rfl,hb1⟩
   have hB1:=hB0.trans (hb1.mono hB0.size)
   have hs1:=hB1.size
   have hBf:=hB1.alloc hs1 (.cells #[.int .i64 1,.int .i64 0] 48)
   go_wp2
   go_ret
   rw [unhide HE]
   exact ⟨some ⟨w1.heap.size,0,none⟩,1,rfl,TyR.new1 w1 _ _,fun g o e=>(by simp at e; omega),hBf⟩
 have n12:(op == 12)=false:=by simp; omega
 have n25:(op == 25)=false:=by simp; omega
 have i12:¬ (op=12∨op=25):=hop
 clear hop
 by_cases hop:op=14∨op=19
 ·rcases hop with rfl | rfl
  all_goals
   have HE:Hid (R=[(3,0)]):=by unfold Hid; rw [← unhide HRES]; simp
   go_enter Tryz.func173,Tryz.ntmps173
   go_wp2_with fail
   refine (pref_any 0 _).mono ?_
   rintro e w1 ⟨rfl,hb1⟩
   have hB1:=hB0.trans (hb1.mono hB0.size)
   have hs1:=hB1.size
   have hBf:=hB1.alloc hs1 (.cells #[.int .i64 3,.int .i64 0] 48)
   go_wp2
   go_ret
   rw [unhide HE]
   exact ⟨some ⟨w1.heap.size,0,none⟩,1,rfl,TyR.new1 w1 _ _,fun g o e=>(by simp at e; omega),hBf⟩
 have n14:(op == 14)=false:=by simp; omega
 have n19:(op == 19)=false:=by simp; omega
 have i14:¬ (op=14∨op=19):=hop
 clear hop
 by_cases hop:op=17
 ·subst hop
  have HE:Hid (R=[(3,fo)]):=by unfold Hid; rw [← unhide HRES]; simp
  go_enter Tryz.func173,Tryz.ntmps173
  go_wp2_with fail
  refine (unhide HFI _ hB0).mono ?_
  rintro e w1 ⟨rfl,hb1⟩
  have hB1:=hB0.trans (hb1.mono hB0.size)
  have hs1:=hB1.size
  go_wp2_with fail
  refine (pref_any fo _).mono ?_
  rintro e w2 ⟨rfl,hb2⟩
  have hB2:=(hB1.alloc hs1 (.cells #[.int .i64 ft1,.int .i64 ft2] 48)).trans (hb2.mono (by simp; omega))
  have hs2:=hB2.size
  have hBf:=hB2.alloc hs2 (.cells #[.int .i64 3,.int .i64 fo] 48)
  go_wp2
  go_ret
  rw [unhide HE]
  exact ⟨some ⟨w2.heap.size,0,none⟩,1,rfl,TyR.new1 w2 _ _,fun g o e=>(by simp at e; omega),hBf⟩
 have n17:(op == 17)=false:=by simp; omega
 have i17:¬ (op=17):=hop
 clear hop
 by_cases hop:op=18
 ·subst hop
  have HE:Hid (R=[(3,fo),(ft1,ft2)]):=by unfold Hid; rw [← unhide HRES]; simp
  go_enter Tryz.func173,Tryz.ntmps173
  go_wp2_with fail
  refine (unhide HFI _ hB0).mono ?_
  rintro e w1 ⟨rfl,hb1⟩
  have hB1:=hB0.trans (hb1.mono hB0.size)
  have hs1:=hB1.size
  have TA:=alloc_blk w1 (.cells #[.int .i64 ft1,.int .i64 ft2] 48)
  have p0:(w1.alloc (.cells #[.int .i64 ft1,.int .i64 ft2] 48)).cell? ⟨w1.heap.size,0,none⟩=some (.int .i64 ft1):=(blk_cell TA 0).trans rfl
  have p1:(w1.alloc (.cells #[.int .i64 ft1,.int .i64 ft2] 48)).cell? ⟨w1.heap.size,1,none⟩=some (.int .i64 ft2):=(blk_cell TA 1).trans rfl
  have lT:=lt_of_block TA
  go_wp2
  go_region_held3 (fun w'=>w'.cell? ⟨w1.heap.size,0,none⟩=some (.int .i64 ft1)∧w'.cell? ⟨w1.heap.size,1,none⟩=some (.int .i64 ft2)) (first | exact ⟨p0,p1⟩ | exact ⟨(hb2.cell lT).trans p0,(hb2.cell lT).trans p1⟩ | exact ⟨(World.cell?_alloc_lt _ _ _ (Nat.lt_of_lt_of_le lT hb2.size)).trans ((hb2.cell lT).trans p0),(World.cell?_alloc_lt _ _ _ (Nat.lt_of_lt_of_le lT hb2.size)).trans ((hb2.cell lT).trans p1)⟩) (first | (go_at_call 116; refine (pref_any fo _).mono ?_; rintro e w2 ⟨rfl,hb2⟩))
  have hB2:=(hB1.alloc hs1 (.cells #[.int .i64 ft1,.int .i64 ft2] 48)).drew.trans (hb2.mono (by simp; omega))
  have hs2:=hB2.size
  have hBf:=hB2.alloc hs2 (.cells #[.int .i64 3,.int .i64 fo,.int .i64 ft1,.int .i64 ft2] 48)
  go_wp2
  go_ret
  rw [unhide HE]
  exact ⟨some ⟨w2.heap.size,0,none⟩,2,rfl,TyR.new2 w2 _ _ _ _,fun g o e=>(by simp at e; omega),hBf⟩
 have n18:(op == 18)=false:=by simp; omega
 have i18:¬ (op=18):=hop
 clear hop
 by_cases hop:op=20
 ·subst hop
  have hl:=unhide hN2' (by simp)
  have hgd:=unhide HGD hl
  have hpl:=unhide HPS lm[n] (List.getElem_mem hl)
  have HE:Hid (R=lm[n].1.params):=by unfold Hid; rw [← unhide HRES]; rw [hgd]; simp
  go_enter Tryz.func173,Tryz.ntmps173
  go_wp2_with fail
  refine (unhide HNM hl _ hB0).mono ?_
  rintro e w1 ⟨q,rfl,hq,hqp,hb1⟩
  have hB1:=hB0.trans (hb1.mono hB0.size)
  have hs1:=hB1.size
  have hps:=TyR.of_tys hq.ps
  have hpl2:=hq.pl
  have hnb:=fun g=>unhide HBB lm[n] (List.getElem_mem hl) g
  rw [← hqp] at hnb
  obtain ⟨q1,q2,q3,q4,q5,q6,q7,q8,q9,qa,qb,qc,qd,qe,qf,qg,qh,qi⟩:=q
  simp only at hps hnb hpl2
  subst hpl2
  clear hq hqp
  have hfd:∀ w:World,(Instr.field 92 (.agg #[.int .i64 q1,.int .i64 q2,.slice q3 lm[n].1.params.length q5,.int .i64 q6,.int .i64 q7,.int .i64 q8,.int .i64 q9,.slice qa qb qc,.slice qd qe qf,.slice qg qh qi]) 2).run Tryz.prog w=.ok (.slice q3 lm[n].1.params.length q5) w:=fun _=>by kernel_rfl
  go_wp2
  go_ret
  rw [unhide HE]
  exact ⟨q3,q5,rfl,hps,fun g o e=>(by subst e; exact Or.inr (hnb g rfl)),hB1⟩
 have n20:(op == 20)=false:=by simp; omega
 have i20:¬ (op=20):=hop
 clear hop
 by_cases hop:op=21
 ·subst hop
  have hl:=unhide hN2' (by simp)
  have hgd:=unhide HGD hl
  have hpl:=unhide HPS lm[n] (List.getElem_mem hl)
  have HE:Hid (R=(3,lm[n].1.cl) :: lm[n].1.params):=by unfold Hid; rw [← unhide HRES]; rw [hgd]; simp
  go_enter Tryz.func173,Tryz.ntmps173
  go_wp2_with fail
  refine (unhide HNM hl _ hB0).mono ?_
  rintro e w1 ⟨q,rfl,hq,hqp,hb1⟩
  have hB1:=hB0.trans (hb1.mono hB0.size)
  have hs1:=hB1.size
  have hps:=TyR.of_tys hq.ps
  have hpl2:=hq.pl
  have hcl2:=hq.cl
  obtain ⟨q1,q2,q3,q4,q5,q6,q7,q8,q9,qa,qb,qc,qd,qe,qf,qg,qh,qi⟩:=q
  simp only at hps hpl2 hcl2
  subst hpl2 hcl2
  have MA:=alloc_blk w1 (.cells #[.int .i64 lm[n].1.cl,.int .i64 q2,.slice q3 lm[n].1.params.length q5,.int .i64 q6,.int .i64 q7,.int .i64 q8,.int .i64 q9,.slice qa qb qc,.slice qd qe qf,.slice qg qh qi] 92)
  have ma:=blk_cell MA 0
  have mb:=blk_cell MA 2
  have lM:=lt_of_block MA
  simp at ma mb
  clear hq hqp
  go_wp2_with fail
  refine (pref_any _ _).mono ?_
  rintro e w2 ⟨rfl,hb2⟩
  have hB2:=(hB1.alloc hs1 (.cells #[.int .i64 lm[n].1.cl,.int .i64 q2,.slice q3 lm[n].1.params.length q5,.int .i64 q6,.int .i64 q7,.int .i64 q8,.int .i64 q9,.slice qa qb qc,.slice qd qe qf,.slice qg qh qi] 92)).trans (hb2.mono (by simp; omega))
  have hs2:=hB2.size
  have M2:=stay hb2 MA
  have mc:=blk_cell M2 2
  have lM2:=lt_of_block M2
  simp at mc
  have hps2:=((hps.below ((Below.refl _ _).alloc (Nat.le_refl _) (.cells #[.int .i64 lm[n].1.cl,.int .i64 q2,.slice q3 lm[n].1.params.length q5,.int .i64 q6,.int .i64 q7,.int .i64 q8,.int .i64 q9,.slice qa qb qc,.slice qd qe qf,.slice qg qh qi] 92))).below hb2).below ((Below.refl _ _).alloc (Nat.le_refl _) (.cells #[.int .i64 3,.int .i64 lm[n].1.cl] 48))
  have hown0:(w2.alloc (.cells #[.int .i64 3,.int .i64 lm[n].1.cl] 48)).ownsRow w.heap.size 48 2 (.slice (some ⟨w2.heap.size,0,none⟩) 1 1) [((3:Int),lm[n].1.cl)].length (tcells [((3:Int),lm[n].1.cl)]):=⟨rfl,.inr ⟨w2.heap.size,1,_,rfl,hs2,alloc_blk w2 _,by simp,by unfold maxLen; omega,rfl,rfl⟩⟩
  go_wp2_with (at_builtin; refine append_tyr rfl _ _ rfl w.heap.size _ [((3:Int),lm[n].1.cl)] lm[n].1.params q3 lm[n].1.params.length q5 rfl hown0 rfl hps2 (by simp; omega) (by simp; omega) ?_)
  intro v' w3 hown3 hgrow
  obtain ⟨va,vc,rfl⟩:=own_shape hown3
  have hB3:=(hB2.alloc hs2 (.cells #[.int .i64 3,.int .i64 lm[n].1.cl] 48)).grown hgrow (by simp; omega) (fun j hj=>(hown0.lt j hj).1)
  have hlt3:=fun j hj=>(hown3.lt j hj).1
  go_wp2
  go_ret
  rw [unhide HE]
  exact ⟨va,vc,by simp,by simpa using own_tyr hown3 (by simp),fun g o e=>(by subst e; exact Or.inl (hlt3 g rfl)),hB3⟩
 have n21:(op == 21)=false:=by simp; omega
 have i21:¬ (op=21):=hop
 clear hop
 by_cases hop:op=22
 ·subst hop
  have HE:Hid (R=Ck.gives (r1,r2)):=by unfold Hid; rw [← unhide HRES]; simp
  go_enter Tryz.func173,Tryz.ntmps173
  go_wp2_with fail
  refine (unhide HGV ⟨cl,nm,pa,pl,pc,r1,r2,lo,st,ca,cn,cc,ha,hl,hc,ma,ml,mc⟩ _).mono ?_
  rintro e w1 ⟨a,c,rfl,ht,hnew,hb1⟩
  have hB1:=hB0.trans (hb1.mono hB0.size)
  go_wp2
  go_ret
  rw [unhide HE]
  exact ⟨a,c,rfl,ht,fun g o e=>(by have:=hnew g o e; simp at this; omega),hB1⟩
 have n22:(op == 22)=false:=by simp; omega
 have i22:¬ (op=22):=hop
 clear hop
 by_cases hop:op=23
 ·subst hop
  have HE:Hid (R=[(3,1)]):=by unfold Hid; rw [← unhide HRES]; simp
  go_enter Tryz.func173,Tryz.ntmps173
  go_wp2_with fail
  refine (pref_any 1 _).mono ?_
  rintro e w1 ⟨rfl,hb1⟩
  have hB1:=hB0.trans (hb1.mono hB0.size)
  have hs1:=hB1.size
  have hBf:=hB1.alloc hs1 (.cells #[.int .i64 3,.int .i64 1] 48)
  go_wp2
  go_ret
  rw [unhide HE]
  exact ⟨some ⟨w1.heap.size,0,none⟩,1,rfl,TyR.new1 w1 _ _,fun g o e=>(by simp at e; omega),hBf⟩
 have n23:(op == 23)=false:=by simp; omega
 have i23:¬ (op=23):=hop
 clear hop
 have HE:Hid (R=[]):=by unfold Hid; rw [← unhide HRES]; simp [i7,i12,i14,i17,i18,i20,i21,i22,i23]
 go_enter Tryz.func173,Tryz.ntmps173
 go_wp2
 go_ret
 rw [unhide HE]
 exact ⟨none,0,rfl,TyR.nil _,fun g o e=>(by cases e),hB0⟩
end Go.Proofs.YteffpdofcgbokaaGreat
