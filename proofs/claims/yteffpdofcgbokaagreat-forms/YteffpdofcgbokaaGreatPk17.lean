/-
  The walks over rules.For and flow.Find.
-/
import Derived.Laws.Tables
import Derived.Test.YteffpdofcgbokaaGreatPk16

namespace Go.Proofs.YteffpdofcgbokaaGreat
open Go.RowKit

set_option maxRecDepth 100000 in
set_option maxHeartbeats 8000000 in
theorem pfor_any (b:PBd) (w:World) :
  Calls Tryz.prog 42 #[.agg #[.slice b.fa1 b.fl1 b.fc1,.slice b.fa2 b.fl2 b.fc2],.agg #[.slice (some ⟨b.tg,0,none⟩) b.T.length b.tc,.slice b.ya b.yn b.yc],.agg #[.int .i64 b.cl,.int .i64 b.nm,.slice b.pa b.pl b.pc,.int .i64 b.r1,.int .i64 b.r2,.int .i64 b.lo,.int .i64 b.st,.slice b.ca b.cn b.cc,.slice b.ha b.hl b.hc,.slice b.ma b.ml b.mc],.slice b.la b.L.length b.lc] w fun e w' =>
   e=.returned b.val∧Below w.heap.size w w':=by
 obtain ⟨fa1,fl1,fc1,fa2,fl2,fc2,tg,tc,ya,yn,yc,cl,nm,pa,pl,pc,r1,r2,lo,st,ca,cn,cc,ha,hl,hc,ma,ml,mc,la,lc,T,L⟩:=b
 simp only [PBd.val]
 go_enter Tryz.func42,Tryz.ntmps42
 go_wp2
 refine bodyPost_ret (v:=.agg #[.slice fa1 fl1 fc1,.slice fa2 fl2 fc2,.slice (some ⟨tg,0,none⟩) T.length tc,.slice ya yn yc,.int .i64 cl,.int .i64 nm,.slice pa pl pc,.int .i64 r1,.int .i64 r2,.int .i64 lo,.int .i64 st,.slice ca cn cc,.slice ha hl hc,.slice ma ml mc,.slice la L.length lc]) (by simp [results,Tryz.results42,go_sem]) rfl ?_
 exact ⟨rfl,below4 _ _ _ _ _⟩

/-- the first method of which something is told -/
def Pk.firstOf (FR:Rd.Mth→Int × Int):Nat→List Rd.Mth→Int × Int × Int
 | _,[]=>(0,0,0)
 | k,m :: r=>if (FR m).1 ≠ 0 then ((FR m).1,(k:Int),(FR m).2) else Pk.firstOf FR (k+1) r

theorem ftm_cells {w:World}{k1 k2 k3:Nat}{a1 a2 b1 b2:Option Addr}{m1 d1 m2 d2 m3 d3 m4 d4:Nat}{cl nm r1 r2 lo st:Int}{pa ca ha ma:Option Addr}{pl pc cn cc hl hc ml mc:Nat} (hF:w.heap[k1]?=some (.cells #[.slice a1 m1 d1,.slice a2 m2 d2] 38 (0,0))) (hT:w.heap[k2]?=some (.cells #[.slice b1 m3 d3,.slice b2 m4 d4] 87 (0,0))) (hM:w.heap[k3]?=some (.cells #[.int .i64 cl,.int .i64 nm,.slice pa pl pc,.int .i64 r1,.int .i64 r2,.int .i64 lo,.int .i64 st,.slice ca cn cc,.slice ha hl hc,.slice ma ml mc] 92 (0,0))) :
  (w.cell? ⟨k1,0,none⟩=some (.slice a1 m1 d1)∧w.cell? ⟨k1,1,none⟩=some (.slice a2 m2 d2))∧(w.cell? ⟨k2,0,none⟩=some (.slice b1 m3 d3)∧w.cell? ⟨k2,1,none⟩=some (.slice b2 m4 d4))∧w.cell? ⟨k3,0,none⟩=some (.int .i64 cl)∧w.cell? ⟨k3,1,none⟩=some (.int .i64 nm)∧w.cell? ⟨k3,2,none⟩=some (.slice pa pl pc)∧w.cell? ⟨k3,3,none⟩=some (.int .i64 r1)∧w.cell? ⟨k3,4,none⟩=some (.int .i64 r2)∧w.cell? ⟨k3,5,none⟩=some (.int .i64 lo)∧w.cell? ⟨k3,6,none⟩=some (.int .i64 st)∧w.cell? ⟨k3,7,none⟩=some (.slice ca cn cc)∧w.cell? ⟨k3,8,none⟩=some (.slice ha hl hc)∧w.cell? ⟨k3,9,none⟩=some (.slice ma ml mc):=by
 refine ⟨⟨?_,?_⟩,⟨?_,?_⟩,?_,?_,?_,?_,?_,?_,?_,?_,?_,?_⟩
 all_goals first | (rw [blk_cell hF]; rfl) | (rw [blk_cell hT]; rfl) | (rw [blk_cell hM]; rfl)

/-- a store of a whole block, as one step of a region that draws its order -/
theorem step_store_row {P:Program}{ops:Array Oper}{o:Oper}{a:Act}{w:World}{K:Act→World→Prop}{Q:Exit→Act→World→Prop}{E:Prop} (hg:o.guard=none) (ty:TypeId) (x y:Operand) (ho:o.op=.store ty x y)
  (g:Nat) (cells:Array Value) (hx:a.eval x=.pointer (some ⟨g,0,none⟩)) (hy:a.eval y=.agg cells) (t:TypeId) (old:Array Value) (hgg:w.heap[g]?=some (.cells old t (0,0))) (hi:(P.info? ty).map (·.size)=some cells.size)
  (hold:old.size=cells.size) (h1:cells.all (·.oneCell')=true) (h:K (a.put o.dst undef) (w.setRow g cells)):if Region.wanted o (yielded ops a.tmps)=true then Oper.wp P o a w K Q else E:=by
 have hw:Region.wanted o (yielded ops a.tmps)=true:=by simp [Region.wanted,hg]
 rw [if_pos hw]
 exact wp_store_row ty x y ho g cells hx hy t old hgg hi hold h1 h
theorem below_row {B g:Nat}{w0 w:World} (hb:Below B w0 w) (hBg:B≤g) (cs:Array Value):Below B w0 (w.setRow g cs) :=
 ⟨hb.os,hb.tape,hb.output,by rw [setRow_size]; exact hb.size,fun k hk=>(setRow_other w g k cs (by omega)).trans (hb.block k hk)⟩
theorem setRow_blk {w:World}{g:Nat}{old cs:Array Value}{t:TypeId} (hg:w.heap[g]?=some (.cells old t (0,0))):(w.setRow g cs).heap[g]?=some (.cells cs t (0,0)):=setRow_heap w g old cs t (0,0) hg
theorem setRow_ne {w:World}{g k:Nat}{cs:Array Value} (h:k ≠ g):(w.setRow g cs).heap[k]?=w.heap[k]?:=setRow_other w g k cs h

set_option maxRecDepth 100000 in
set_option maxHeartbeats 40000000 in
theorem pFind_any (fa1 fa2:Option Addr) (fl1 fc1 fc2 bm:Nat) (lcs:List (Rd.Cls × Value)) (lms:List (Rd.Mth × MthV)) (FR:Rd.Mth→Int × Int) (w:World) (hc6:lcs.length≤6) (hcs:ClssIn w bm (.slice fa1 fl1 fc1) lcs) (hm6:lms.length≤1000) (hms:MthsIn w bm (.slice fa2 lms.length fc2) lms)
  (hcode:∀ p∈lms,p.1.code.length≤1000∧∀ x∈p.1.code,0≤x)
  (hFd:∀ p∈lms,∀ (b:PBd) bb w',Below w.heap.size w w'→b.fa1=fa1→b.fl1=fl1→b.fc1=fc1→b.fa2=fa2→b.fl2=lms.length→b.fc2=fc2→b.T=Tr.tree (lcs.map Prod.fst)→b.L=Cd.readL p.1.code→TreeIn w' b.tg b.T→w'.ownsRow w.heap.size 46 1 (.slice b.ya b.yn b.yc) (7+lcs.length) (Tr.fvals lcs) →
   (⟨b.cl,b.nm,b.pa,b.pl,b.pc,b.r1,b.r2,b.lo,b.st,b.ca,b.cn,b.cc,b.ha,b.hl,b.hc,b.ma,b.ml,b.mc⟩:PM).is p.1 w' bm→InsAt w' bb (.slice b.la b.L.length b.lc) b.L →
   Calls Tryz.prog 43 #[b.pval] w' fun e w''=>e=.returned (.agg #[.int .i64 (FR p.1).1,.int .i64 0,.int .i64 (FR p.1).2])∧Below w'.heap.size w' w'') :
  Calls Tryz.prog 19 #[.agg #[.slice fa1 fl1 fc1,.slice fa2 lms.length fc2]] w fun e w'=>e=.returned (.agg #[.int .i64 (Pk.firstOf FR 0 (lms.map Prod.fst)).1,.int .i64 (Pk.firstOf FR 0 (lms.map Prod.fst)).2.1,.int .i64 (Pk.firstOf FR 0 (lms.map Prod.fst)).2.2])∧Below w.heap.size w w':=by
 have hTO:=fun w' (h:Below w.heap.size w w')=>treeOf_any fa1 fa2 fl1 fc1 lms.length fc2 bm lcs w' hc6 (hcs.kp (Kp.of_below (e:=none) h) (by decide) (by decide))
 have HMS:Hid (∀ w',Below w.heap.size w w'→MthsIn w' bm (.slice fa2 lms.length fc2) lms):=fun w' h=>hms.kp (Kp.of_below (e:=none) h) (by decide) (by decide) (by decide) (by decide) (by decide)
 generalize hR:Pk.firstOf FR 0 (lms.map Prod.fst)=R
 have HR:Hid (Pk.firstOf FR 0 ((lms.map Prod.fst).drop 0)=R):=hR
 have HTO:=hide hTO
 have HFD:=hide hFd
 have HCO:=hide hcode
 clear hTO hFd hcode hR hcs hms
 have hB0:=below2 w (.cells #[.slice fa1 fl1 fc1,.slice fa2 lms.length fc2] 38) (.cells #[.int .i64 0,.int .i64 0,.int .i64 0] 40)
 have F0:=alloc1_blk w (.cells #[.slice fa1 fl1 fc1,.slice fa2 lms.length fc2] 38) (.cells #[.int .i64 0,.int .i64 0,.int .i64 0] 40)
 have Z0:=alloc2_blk w (.cells #[.slice fa1 fl1 fc1,.slice fa2 lms.length fc2] 38) (.cells #[.int .i64 0,.int .i64 0,.int .i64 0] 40)
 have hsz0:((w.alloc (.cells #[.slice fa1 fl1 fc1,.slice fa2 lms.length fc2] 38)).alloc (.cells #[.int .i64 0,.int .i64 0,.int .i64 0] 40)).heap.size=w.heap.size+2:=by simp
 go_enter Tryz.func19,Tryz.ntmps19
 go_wp2_with fail
 refine (unhide HTO _ hB0).mono ?_
 rintro e w1 ⟨tg,tc,ya,yn,yc,rfl,hT1,hY1,htg,hb1⟩
 generalize Tr.tree (lcs.map Prod.fst)=T at *
 have hB1:=hB0.trans (hb1.mono hB0.size)
 have hs1:=hB1.size
 have lZ:=lt_of_block (stay hb1 Z0)
 have F1:=stay1 (stay hb1 F0) (.cells #[.slice (some ⟨tg,0,none⟩) T.length tc,.slice ya yn yc] 87)
 have Z1:=stay1 (stay hb1 Z0) (.cells #[.slice (some ⟨tg,0,none⟩) T.length tc,.slice ya yn yc] 87)
 have T1:=alloc_blk w1 (.cells #[.slice (some ⟨tg,0,none⟩) T.length tc,.slice ya yn yc] 87)
 have hB2:=hB1.alloc hs1 (.cells #[.slice (some ⟨tg,0,none⟩) T.length tc,.slice ya yn yc] 87)
 have hT2:=hT1.below ((Below.refl _ _).alloc (Nat.le_refl _) (.cells #[.slice (some ⟨tg,0,none⟩) T.length tc,.slice ya yn yc] 87))
 have hY2:=own_base (own_kp hY1 (Kp.of_below (e:=none) ((Below.refl _ _).alloc (Nat.le_refl _) (.cells #[.slice (some ⟨tg,0,none⟩) T.length tc,.slice ya yn yc] 87))) (by decide)) (show w.heap.size≤_ by rw [hsz0]; omega)
 clear hb1 F0 Z0 hT1 hY1
 have f1:=blk_cell F1 1
 simp at f1
 go_wp2
 go_loopw [16] (fun s wr=>∃ q:Nat,q≤lms.length∧s=.int .i64 (q:Int)∧Hid (Pk.firstOf FR q ((lms.map Prod.fst).drop q)=R)∧Below w.heap.size w wr∧wr.heap[w.heap.size]?=some (.cells #[.slice fa1 fl1 fc1,.slice fa2 lms.length fc2] 38 (0,0))∧wr.heap[w.heap.size+1]?=some (.cells #[.int .i64 0,.int .i64 0,.int .i64 0] 40 (0,0))∧wr.heap[w1.heap.size]?=some (.cells #[.slice (some ⟨tg,0,none⟩) T.length tc,.slice ya yn yc] 87 (0,0))∧TreeIn wr tg T∧wr.ownsRow w.heap.size 46 1 (.slice ya yn yc) (7+lcs.length) (Tr.fvals lcs))
  (fun s _=>lms.length - (intOf s).toNat)
 case atStart=>exact ⟨0,by omega,rfl,HR,hB2,F1,Z1,T1,hT2,hY2⟩
 case round =>
  clear HR hB2 F1 Z1 T1 hT2 hY2 f1 hB1 hs1
  obtain ⟨q,hq,rfl,HR,hB,CF,CZ,CT,hTr,hYr⟩:=hrel
  have hBs:=hB.size
  by_cases hkn:q < lms.length
  ·obtain ⟨m,g,hg,hglt,hcells,hm,-⟩:=(unhide HMS _ hB).mth2 hkn
   obtain ⟨y0,y1,y2,y3,y4,y5,y6,y7,y8,y9⟩:=row10 hcells
   have hd:(lms.map Prod.fst).drop q=lms[q].1 :: (lms.map Prod.fst).drop (q+1):=by rw [List.drop_eq_getElem_cons (by simpa using hkn)]; simp
   have hr:=unhide HR
   rw [hd,Pk.firstOf] at hr
   have hfd:=unhide HFD lms[q] (List.getElem_mem hkn)
   obtain ⟨hc1,hc0⟩:=unhide HCO lms[q] (List.getElem_mem hkn)
   generalize lms[q].1=x at *
   have kb:(q:Int) < (lms.length:Int):=by omega
   have hcn:=hm.cn
   obtain ⟨cl,nm,pa,pl,pc,r1,r2,lo,st,ca,cn,cc,ha,hl,hc,ma,ml,mc⟩:=m
   simp only at y0 y1 y2 y3 y4 y5 y6 y7 y8 y9 hcn
   subst hcn
   have hBM:=hB.alloc hBs (.cells #[.int .i64 cl,.int .i64 nm,.slice pa pl pc,.int .i64 r1,.int .i64 r2,.int .i64 lo,.int .i64 st,.slice ca x.code.length cc,.slice ha hl hc,.slice ma ml mc] 92)
   have hrd:=cRead_any x.code ca cc bm (wr.alloc (.cells #[.int .i64 cl,.int .i64 nm,.slice pa pl pc,.int .i64 r1,.int .i64 r2,.int .i64 lo,.int .i64 st,.slice ca x.code.length cc,.slice ha hl hc,.slice ma ml mc] 92)) hc1 hc0 ((hm.below ((Below.refl _ _).alloc (Nat.le_refl _) (.cells #[.int .i64 cl,.int .i64 nm,.slice pa pl pc,.int .i64 r1,.int .i64 r2,.int .i64 lo,.int .i64 st,.slice ca x.code.length cc,.slice ha hl hc,.slice ma ml mc] 92))).code)
   have HRD:=hide hrd
   have HFQ:=hide hfd
   have HRR:=hide hr
   have CF1:=stay1 CF (.cells #[.int .i64 cl,.int .i64 nm,.slice pa pl pc,.int .i64 r1,.int .i64 r2,.int .i64 lo,.int .i64 st,.slice ca x.code.length cc,.slice ha hl hc,.slice ma ml mc] 92)
   have CZ1:=stay1 CZ (.cells #[.int .i64 cl,.int .i64 nm,.slice pa pl pc,.int .i64 r1,.int .i64 r2,.int .i64 lo,.int .i64 st,.slice ca x.code.length cc,.slice ha hl hc,.slice ma ml mc] 92)
   have CT1:=stay1 CT (.cells #[.int .i64 cl,.int .i64 nm,.slice pa pl pc,.int .i64 r1,.int .i64 r2,.int .i64 lo,.int .i64 st,.slice ca x.code.length cc,.slice ha hl hc,.slice ma ml mc] 92)
   have CM1:=alloc_blk wr (.cells #[.int .i64 cl,.int .i64 nm,.slice pa pl pc,.int .i64 r1,.int .i64 r2,.int .i64 lo,.int .i64 st,.slice ca x.code.length cc,.slice ha hl hc,.slice ma ml mc] 92)
   subst hg
   clear hrd hfd hr hd hcells HR
   go_wp2_with fail
   refine (unhide HRD).mono ?_
   rintro e w2 ⟨la,lc,rfl,hI2,hb2⟩
   have hB2:=hBM.trans (hb2.mono hBM.size)
   have hs2:=hB2.size
   have CF2:=stay hb2 CF1
   have CZ2:=stay hb2 CZ1
   have CT2:=stay hb2 CT1
   have CM2:=stay hb2 CM1
   have lM2:=lt_of_block CM2
   have lT2:=lt_of_block CT2
   have hfo:=fun w=>pfor_any ⟨fa1,fl1,fc1,some ⟨g,0,none⟩,lms.length,fc2,tg,tc,ya,yn,yc,cl,nm,pa,pl,pc,r1,r2,lo,st,ca,x.code.length,cc,ha,hl,hc,ma,ml,mc,la,lc,T,Cd.readL x.code⟩ w
   simp only [PBd.val] at hfo
   have HFO:=hide hfo
   clear hfo CF1 CZ1 CT1 CM1
   go_upto_region 6 with fail
   go_cut [9] from 17 to 45 (fun s9 wx=>∃ pb,s9=.pointer (some ⟨pb,0,none⟩)∧wx.heap[pb]?=some (.cells #[.slice (some ⟨tg,0,none⟩) T.length tc,.slice ya yn yc,.int .i64 cl,.int .i64 nm,.slice pa pl pc,.int .i64 r1,.int .i64 r2,.int .i64 lo,.int .i64 st,.slice ca x.code.length cc,.slice ha hl hc,.slice ma ml mc,.slice la (Cd.readL x.code).length lc,.slice fa1 fl1 fc1,.slice (some ⟨g,0,none⟩) lms.length fc2,.slice (some ⟨tg,0,none⟩) T.length tc,.slice ya yn yc,.int .i64 cl,.int .i64 nm,.slice pa pl pc,.int .i64 r1,.int .i64 r2,.int .i64 lo,.int .i64 st,.slice ca x.code.length cc,.slice ha hl hc,.slice ma ml mc,.slice la (Cd.readL x.code).length lc] 100 (0,0))∧Below w2.heap.size w2 wx)
   case first =>
    go_wp2
    refine wp_region_held_drew (S:=(fun w'=>(w'.cell? ⟨w.heap.size,0,none⟩=some (.slice fa1 fl1 fc1)∧w'.cell? ⟨w.heap.size,1,none⟩=some (.slice (some ⟨g,0,none⟩) lms.length fc2))∧(w'.cell? ⟨w1.heap.size,0,none⟩=some (.slice (some ⟨tg,0,none⟩) T.length tc)∧w'.cell? ⟨w1.heap.size,1,none⟩=some (.slice ya yn yc))∧w'.cell? ⟨wr.heap.size,0,none⟩=some (.int .i64 cl)∧w'.cell? ⟨wr.heap.size,1,none⟩=some (.int .i64 nm)∧w'.cell? ⟨wr.heap.size,2,none⟩=some (.slice pa pl pc)∧w'.cell? ⟨wr.heap.size,3,none⟩=some (.int .i64 r1)∧w'.cell? ⟨wr.heap.size,4,none⟩=some (.int .i64 r2)∧w'.cell? ⟨wr.heap.size,5,none⟩=some (.int .i64 lo)∧w'.cell? ⟨wr.heap.size,6,none⟩=some (.int .i64 st)∧w'.cell? ⟨wr.heap.size,7,none⟩=some (.slice ca x.code.length cc)∧w'.cell? ⟨wr.heap.size,8,none⟩=some (.slice ha hl hc)∧w'.cell? ⟨wr.heap.size,9,none⟩=some (.slice ma ml mc))) (by kernel_rfl) (ftm_cells CF2 CT2 CM2) (fun hHeld=>?_)
    refine wpAnyH_take (i:=0) (oi:=⟨_,_,_,_,_,_⟩) (v:=.agg #[.slice (some ⟨tg,0,none⟩) T.length tc,.slice ya yn yc]) rfl (by kernel_rfl) (by kernel_rfl) (by kernel_rfl) (fun _ _ _ h=>h) (Or.inl ⟨by rfl,?_⟩) hHeld ?_
    ·intro w' hSw
     try dsimp only at hSw
     go_simp
    try simp only [Act.put,List.setIfInBounds_toArray,List.set_cons_zero,List.set_cons_succ]
    refine wpAnyH_take (i:=1) (oi:=⟨_,_,_,_,_,_⟩) (v:=.agg #[.int .i64 cl,.int .i64 nm,.slice pa pl pc,.int .i64 r1,.int .i64 r2,.int .i64 lo,.int .i64 st,.slice ca x.code.length cc,.slice ha hl hc,.slice ma ml mc]) rfl (by kernel_rfl) (by kernel_rfl) (by kernel_rfl) (fun _ _ _ h=>h) (Or.inl ⟨by rfl,?_⟩) hHeld ?_
    ·intro w' hSw
     try dsimp only at hSw
     go_simp
    try simp only [Act.put,List.setIfInBounds_toArray,List.set_cons_zero,List.set_cons_succ]
    refine wpAnyH_take (i:=2) (oi:=⟨_,_,_,_,_,_⟩) (v:=.slice la (Cd.readL x.code).length lc) rfl (by kernel_rfl) (by kernel_rfl) (by kernel_rfl) (fun _ _ _ h=>h) (Or.inl ⟨by rfl,?_⟩) hHeld ?_
    ·intro w' hSw
     try dsimp only at hSw
     go_simp
    try simp only [Act.put,List.setIfInBounds_toArray,List.set_cons_zero,List.set_cons_succ]
    refine wpAnyH_take (i:=3) (oi:=⟨_,_,_,_,_,_⟩) (v:=.agg #[.slice fa1 fl1 fc1,.slice (some ⟨g,0,none⟩) lms.length fc2]) rfl (by kernel_rfl) (by kernel_rfl) (by kernel_rfl) (fun _ _ _ h=>h) (Or.inl ⟨by rfl,?_⟩) hHeld ?_
    ·intro w' hSw
     try dsimp only at hSw
     go_simp
    try simp only [Act.put,List.setIfInBounds_toArray,List.set_cons_zero,List.set_cons_succ]
    refine wpAnyH_take (i:=4) (oi:=⟨_,_,_,_,_,_⟩) (v:=.agg #[.slice (some ⟨tg,0,none⟩) T.length tc,.slice ya yn yc]) rfl (by kernel_rfl) (by kernel_rfl) (by kernel_rfl) (fun _ _ _ h=>h) (Or.inl ⟨by rfl,?_⟩) hHeld ?_
    ·intro w' hSw
     try dsimp only at hSw
     go_simp
    try simp only [Act.put,List.setIfInBounds_toArray,List.set_cons_zero,List.set_cons_succ]
    refine wpAnyH_take (i:=5) (oi:=⟨_,_,_,_,_,_⟩) (v:=.agg #[.int .i64 cl,.int .i64 nm,.slice pa pl pc,.int .i64 r1,.int .i64 r2,.int .i64 lo,.int .i64 st,.slice ca x.code.length cc,.slice ha hl hc,.slice ma ml mc]) rfl (by kernel_rfl) (by kernel_rfl) (by kernel_rfl) (fun _ _ _ h=>h) (Or.inl ⟨by rfl,?_⟩) hHeld ?_
    ·intro w' hSw
     try dsimp only at hSw
     go_simp
    try simp only [Act.put,List.setIfInBounds_toArray,List.set_cons_zero,List.set_cons_succ]
    refine wpAnyH_take (i:=6) (oi:=⟨_,_,_,_,_,_⟩) (v:=.slice la (Cd.readL x.code).length lc) rfl (by kernel_rfl) (by kernel_rfl) (by kernel_rfl) (fun _ _ _ h=>h) (Or.inl ⟨by rfl,?_⟩) hHeld ?_
    ·intro w' hSw
     try dsimp only at hSw
     go_simp
    try simp only [Act.put,List.setIfInBounds_toArray,List.set_cons_zero,List.set_cons_succ]
    refine wpAnyH_ready (rs:=[7,9]) (by kernel_rfl) (by simp) ?_
    refine AllReadyH.cons (o:=⟨_,_,_,_,_,_⟩) rfl (fun K hK=>?_) (AllReadyH.cons (o:=⟨_,_,_,_,_,_⟩) rfl (fun K hK=>?_) AllReadyH.nil)
    ·go_simp
     refine (unhide HFO _).mono ?_
     rintro e w5 ⟨rfl,hb5⟩
     have hs5:w2.heap.size≤w5.heap.size:=hb5.size
     try dsimp only
     clear hHeld
     refine hK.out _ _ (ftm_cells (by exact stay hb5 (show w2.drew.heap[_]?=_ from CF2)) (by exact stay hb5 (show w2.drew.heap[_]?=_ from CT2)) (by exact stay hb5 (show w2.drew.heap[_]?=_ from CM2))) (fun hHeld=>?_)
     clear hK K
     try simp only [Act.put,List.setIfInBounds_toArray,List.set_cons_zero,List.set_cons_succ]
     refine wpAnyH_take (i:=8) (oi:=⟨_,_,_,_,_,_⟩) (v:=.agg #[.slice (some ⟨tg,0,none⟩) T.length tc,.slice ya yn yc,.int .i64 cl,.int .i64 nm,.slice pa pl pc,.int .i64 r1,.int .i64 r2,.int .i64 lo,.int .i64 st,.slice ca x.code.length cc,.slice ha hl hc,.slice ma ml mc,.slice la (Cd.readL x.code).length lc,.slice fa1 fl1 fc1,.slice (some ⟨g,0,none⟩) lms.length fc2,.slice (some ⟨tg,0,none⟩) T.length tc,.slice ya yn yc,.int .i64 cl,.int .i64 nm,.slice pa pl pc,.int .i64 r1,.int .i64 r2,.int .i64 lo,.int .i64 st,.slice ca x.code.length cc,.slice ha hl hc,.slice ma ml mc,.slice la (Cd.readL x.code).length lc]) rfl (by kernel_rfl) (by kernel_rfl) (by kernel_rfl) (fun _ _ _ h=>h) (Or.inl ⟨by rfl,?_⟩) hHeld ?_
     ·intro w' hSw
      try dsimp only at hSw
      go_simp
     try simp only [Act.put,List.setIfInBounds_toArray,List.set_cons_zero,List.set_cons_succ]
     refine wpAnyH_ready (rs:=[9]) (by kernel_rfl) (by simp) ?_
     refine AllReadyH.cons (o:=⟨_,_,_,_,_,_⟩) rfl (fun K hK=>?_) AllReadyH.nil
     go_simp
     clear hHeld
     refine hK.out _ _ (ftm_cells (by exact stay1 (stay hb5 (show w2.drew.heap[_]?=_ from CF2)) _) (by exact stay1 (stay hb5 (show w2.drew.heap[_]?=_ from CT2)) _) (by exact stay1 (stay hb5 (show w2.drew.heap[_]?=_ from CM2)) _)) (fun hHeld=>?_)
     clear hK K
     try simp only [Act.put,List.setIfInBounds_toArray,List.set_cons_zero,List.set_cons_succ]
     have HPB:=alloc_blk w5 (.cells #[.slice none 0 0,.slice none 0 0,.int .i64 0,.int .i64 0,.slice none 0 0,.int .i64 0,.int .i64 0,.int .i64 0,.int .i64 0,.slice none 0 0,.slice none 0 0,.slice none 0 0,.slice none 0 0,.slice none 0 0,.slice none 0 0,.slice none 0 0,.slice none 0 0,.int .i64 0,.int .i64 0,.slice none 0 0,.int .i64 0,.int .i64 0,.int .i64 0,.int .i64 0,.slice none 0 0,.slice none 0 0,.slice none 0 0,.slice none 0 0] 100)
     refine wpAnyH_ready (rs:=[10]) (by kernel_rfl) (by simp) ?_
     refine AllReadyH.cons (o:=⟨_,_,_,_,_,_⟩) rfl (fun K hK=>?_) AllReadyH.nil
     refine step_store_row (by rfl) 100 _ _ (by rfl) w5.heap.size #[.slice (some ⟨tg,0,none⟩) T.length tc,.slice ya yn yc,.int .i64 cl,.int .i64 nm,.slice pa pl pc,.int .i64 r1,.int .i64 r2,.int .i64 lo,.int .i64 st,.slice ca x.code.length cc,.slice ha hl hc,.slice ma ml mc,.slice la (Cd.readL x.code).length lc,.slice fa1 fl1 fc1,.slice (some ⟨g,0,none⟩) lms.length fc2,.slice (some ⟨tg,0,none⟩) T.length tc,.slice ya yn yc,.int .i64 cl,.int .i64 nm,.slice pa pl pc,.int .i64 r1,.int .i64 r2,.int .i64 lo,.int .i64 st,.slice ca x.code.length cc,.slice ha hl hc,.slice ma ml mc,.slice la (Cd.readL x.code).length lc] (by rfl) (by rfl) 100 _ HPB Tryz.infoPass (by rfl) (by simp [Value.oneCell']) ?_
     clear hHeld
     refine hK.out _ _ (ftm_cells ((setRow_ne (by omega)).trans (stay1 (stay hb5 (show w2.drew.heap[_]?=_ from CF2)) _)) ((setRow_ne (by omega)).trans (stay1 (stay hb5 (show w2.drew.heap[_]?=_ from CT2)) _)) ((setRow_ne (by omega)).trans (stay1 (stay hb5 (show w2.drew.heap[_]?=_ from CM2)) _))) (fun hHeld=>?_)
     clear hK K
     try simp only [Act.put]
     refine wpAnyH_done (by kernel_rfl) ?_ _
     go_wp2
     go_meet
     case rel=>exact ⟨w5.heap.size,rfl,setRow_blk HPB,below_row (((Below.refl _ _).drew.trans hb5).alloc hs5 _) hs5 _⟩
    ·go_simp
     clear hHeld
     refine hK.out _ _ (ftm_cells (by exact stay1 (show w2.drew.heap[_]?=_ from CF2) _) (by exact stay1 (show w2.drew.heap[_]?=_ from CT2) _) (by exact stay1 (show w2.drew.heap[_]?=_ from CM2) _)) (fun hHeld=>?_)
     clear hK K
     try simp only [Act.put,List.setIfInBounds_toArray,List.set_cons_zero,List.set_cons_succ]
     refine wpAnyH_ready (rs:=[7]) (by kernel_rfl) (by simp) ?_
     refine AllReadyH.cons (o:=⟨_,_,_,_,_,_⟩) rfl (fun K hK=>?_) AllReadyH.nil
     go_simp
     refine (unhide HFO _).mono ?_
     rintro e w5 ⟨rfl,hb5⟩
     have hs5:w2.heap.size+1≤w5.heap.size:=by have:=hb5.size; simp at this; exact this
     try dsimp only
     clear hHeld
     refine hK.out _ _ (ftm_cells (by exact stay hb5 (stay1 (show w2.drew.heap[_]?=_ from CF2) _)) (by exact stay hb5 (stay1 (show w2.drew.heap[_]?=_ from CT2) _)) (by exact stay hb5 (stay1 (show w2.drew.heap[_]?=_ from CM2) _))) (fun hHeld=>?_)
     clear hK K
     try simp only [Act.put,List.setIfInBounds_toArray,List.set_cons_zero,List.set_cons_succ]
     refine wpAnyH_take (i:=8) (oi:=⟨_,_,_,_,_,_⟩) (v:=.agg #[.slice (some ⟨tg,0,none⟩) T.length tc,.slice ya yn yc,.int .i64 cl,.int .i64 nm,.slice pa pl pc,.int .i64 r1,.int .i64 r2,.int .i64 lo,.int .i64 st,.slice ca x.code.length cc,.slice ha hl hc,.slice ma ml mc,.slice la (Cd.readL x.code).length lc,.slice fa1 fl1 fc1,.slice (some ⟨g,0,none⟩) lms.length fc2,.slice (some ⟨tg,0,none⟩) T.length tc,.slice ya yn yc,.int .i64 cl,.int .i64 nm,.slice pa pl pc,.int .i64 r1,.int .i64 r2,.int .i64 lo,.int .i64 st,.slice ca x.code.length cc,.slice ha hl hc,.slice ma ml mc,.slice la (Cd.readL x.code).length lc]) rfl (by kernel_rfl) (by kernel_rfl) (by kernel_rfl) (fun _ _ _ h=>h) (Or.inl ⟨by rfl,?_⟩) hHeld ?_
     ·intro w' hSw
      try dsimp only at hSw
      go_simp
     try simp only [Act.put,List.setIfInBounds_toArray,List.set_cons_zero,List.set_cons_succ]
     have HPB:=stay hb5 (alloc_blk w2.drew (.cells #[.slice none 0 0,.slice none 0 0,.int .i64 0,.int .i64 0,.slice none 0 0,.int .i64 0,.int .i64 0,.int .i64 0,.int .i64 0,.slice none 0 0,.slice none 0 0,.slice none 0 0,.slice none 0 0,.slice none 0 0,.slice none 0 0,.slice none 0 0,.slice none 0 0,.int .i64 0,.int .i64 0,.slice none 0 0,.int .i64 0,.int .i64 0,.int .i64 0,.int .i64 0,.slice none 0 0,.slice none 0 0,.slice none 0 0,.slice none 0 0] 100))
     refine wpAnyH_ready (rs:=[10]) (by kernel_rfl) (by simp) ?_
     refine AllReadyH.cons (o:=⟨_,_,_,_,_,_⟩) rfl (fun K hK=>?_) AllReadyH.nil
     refine step_store_row (by rfl) 100 _ _ (by rfl) w2.heap.size #[.slice (some ⟨tg,0,none⟩) T.length tc,.slice ya yn yc,.int .i64 cl,.int .i64 nm,.slice pa pl pc,.int .i64 r1,.int .i64 r2,.int .i64 lo,.int .i64 st,.slice ca x.code.length cc,.slice ha hl hc,.slice ma ml mc,.slice la (Cd.readL x.code).length lc,.slice fa1 fl1 fc1,.slice (some ⟨g,0,none⟩) lms.length fc2,.slice (some ⟨tg,0,none⟩) T.length tc,.slice ya yn yc,.int .i64 cl,.int .i64 nm,.slice pa pl pc,.int .i64 r1,.int .i64 r2,.int .i64 lo,.int .i64 st,.slice ca x.code.length cc,.slice ha hl hc,.slice ma ml mc,.slice la (Cd.readL x.code).length lc] (by rfl) (by rfl) 100 _ HPB Tryz.infoPass (by rfl) (by simp [Value.oneCell']) ?_
     clear hHeld
     refine hK.out _ _ (ftm_cells ((setRow_ne (by omega)).trans (stay hb5 (stay1 (show w2.drew.heap[_]?=_ from CF2) _))) ((setRow_ne (by omega)).trans (stay hb5 (stay1 (show w2.drew.heap[_]?=_ from CT2) _))) ((setRow_ne (by omega)).trans (stay hb5 (stay1 (show w2.drew.heap[_]?=_ from CM2) _)))) (fun hHeld=>?_)
     clear hK K
     try simp only [Act.put]
     refine wpAnyH_done (by kernel_rfl) ?_ _
     go_wp2
     go_meet
     case rel=>exact ⟨w2.heap.size,rfl,setRow_blk HPB,below_row ((((Below.refl _ _).drew).alloc (Nat.le_refl _) _).trans (hb5.mono (by simp))) (Nat.le_refl _) _⟩
   case rest =>
    obtain ⟨pb,rfl,CP,hb6⟩:=hcut
    have hB6:=hB2.trans (hb6.mono hs2)
    have hs6:=hB6.size
    have hbr:Below wr.heap.size wr wc:=(((Below.refl _ _).alloc (Nat.le_refl _) (.cells #[.int .i64 cl,.int .i64 nm,.slice pa pl pc,.int .i64 r1,.int .i64 r2,.int .i64 lo,.int .i64 st,.slice ca x.code.length cc,.slice ha hl hc,.slice ma ml mc] 92)).trans (hb2.mono (by simp))).trans (hb6.mono (by have:=hb2.size; simp at this; omega))
    have CF6:=stay hb6 CF2
    have CZ6:=stay hb6 CZ2
    have CT6:=stay hb6 CT2
    have hI6:=hI2.kp (Kp.of_below (e:=none) hb6) (by decide)
    have hTr6:=hTr.below hbr
    have hYr6:=own_kp hYr (Kp.of_below (e:=none) hbr) (by decide)
    have hfd:=unhide HFQ ⟨fa1,fl1,fc1,some ⟨g,0,none⟩,lms.length,fc2,tg,tc,ya,yn,yc,cl,nm,pa,pl,pc,r1,r2,lo,st,ca,x.code.length,cc,ha,hl,hc,ma,ml,mc,la,lc,T,Cd.readL x.code⟩ _ wc hB6 rfl rfl rfl rfl rfl rfl rfl rfl hTr6 hYr6 (hm.below hbr) hI6
    simp only [PBd.pval] at hfd
    have hr:=unhide HRR
    generalize FR x=fr at *
    obtain ⟨fr1,fr2⟩:=fr
    simp only at hfd hr
    have HFE:=hide hfd
    have lZ6:=lt_of_block CZ6
    clear hfd HRR HFQ HRD HFO CF2 CZ2 CT2 CM2 hI2 hb2 hb6 hB2 hm hI6 lM2 lT2 y0 y1 y2 y3 y4 y5 y6 y7 y8 y9
    by_cases h0:fr1=0
    ·rw [if_neg (by simpa using h0)] at hr
     have HG:Hid (Pk.firstOf FR (q+1) ((lms.map Prod.fst).drop (q+1))=R):=hr
     subst h0
     clear hr
     go_wp2_with (refine wpList_load_row (by rfl) 100 (.tmp 9) (by rfl) pb (by rfl) 100 _ (0,0) _ CP Tryz.underlying100 (by rfl) Tryz.infoPass ?_)
     refine (unhide HFE).mono ?_
     rintro e w7 ⟨rfl,hb7⟩
     have hB7:=hB6.trans (hb7.mono hs6)
     go_wp2
     go_roundw
     case rel=>exact ⟨q+1,by omega,by go_num,HG,hB7.alloc hB7.size _,stay1 (stay hb7 CF6) _,stay1 (stay hb7 CZ6) _,stay1 (stay hb7 CT6) _,(hTr6.below hb7).below ((Below.refl _ _).alloc (Nat.le_refl _) _),own_kp (own_kp hYr6 (Kp.of_below (e:=none) hb7) (by decide)) (Kp.of_below (e:=none) ((Below.refl _ _).alloc (Nat.le_refl _) _)) (by decide)⟩
     case measure=>simp [intOf]; omega
    ·rw [if_pos h0] at hr
     obtain rfl:=hr
     have h0':(fr1 != 0)=true:=by simpa using h0
     clear h0
     go_wp2_with (refine wpList_load_row (by rfl) 100 (.tmp 9) (by rfl) pb (by rfl) 100 _ (0,0) _ CP Tryz.underlying100 (by rfl) Tryz.infoPass ?_)
     refine (unhide HFE).mono ?_
     rintro e w7 ⟨rfl,hb7⟩
     have hB7:=hB6.trans (hb7.mono hs6)
     have hs7:=hB7.size
     have CZ7:=stay hb7 CZ6
     have z0:=blk_cell CZ7 0
     have z1:=blk_cell CZ7 1
     have z2:=blk_cell CZ7 2
     simp at z0 z1 z2
     have q0:=blk_free CZ7 0
     have q1:=blk_free CZ7 1
     have q2:=blk_free CZ7 2
     have lr:=lt_of_block CZ7
     clear hb7
     go_wp2_with fail
     refine bodyPost_ret (v:=.agg #[.int .i64 fr1,.int .i64 (q:Int),.int .i64 fr2]) (by simp [results,Tryz.results19,go_sem,z0,z1,z2,lr]) rfl ?_
     exact ⟨rfl,by repeat (first | refine Below.setCell ?_ (by simp; omega) _ | refine Below.setCell ?_ (by simp) _ | refine Below.alloc ?_ (by first | omega | (simp; omega)) _ | exact hB7)⟩
  ·have hr:=unhide HR
   rw [List.drop_eq_nil_of_le (by simp; omega),Pk.firstOf] at hr
   obtain rfl:=hr
   have kb:¬ (q:Int) < (lms.length:Int):=by omega
   have z0:=blk_cell CZ 0
   have z1:=blk_cell CZ 1
   have z2:=blk_cell CZ 2
   simp at z0 z1 z2
   have q0:=blk_free CZ 0
   have q1:=blk_free CZ 1
   have q2:=blk_free CZ 2
   have lr:=lt_of_block CZ
   clear HR
   go_wp2_with fail
   refine bodyPost_ret (v:=.agg #[.int .i64 0,.int .i64 0,.int .i64 0]) (by simp [results,Tryz.results19,go_sem,z0,z1,z2]) rfl ?_
   exact ⟨rfl,by repeat (first | refine Below.setCell ?_ (by simp) _ | exact hB)⟩
end Go.Proofs.YteffpdofcgbokaaGreat

/-
  The walks over stackmap.check and Check.
-/
namespace Go.Proofs.YteffpdofcgbokaaGreat
open Go.RowKit

/-- what check tells: P: the errors of form, V: those of types and maps -/
def Pk.check (P V:Int × Int × Int):Int × Int × Int:=if P.1 ≠ 0 then P else if V.1 ≠ 0 then V else (0,0,0)

theorem f3cells {w:World}{k:Nat}{a b c:Int} (h:w.heap[k]?=some (.cells #[.int .i64 a,.int .i64 b,.int .i64 c] 40 (0,0))):w.cell? ⟨k,0,none⟩=some (.int .i64 a)∧w.cell? ⟨k,1,none⟩=some (.int .i64 b)∧w.cell? ⟨k,2,none⟩=some (.int .i64 c):=by
 refine ⟨?_,?_,?_⟩
 all_goals (rw [blk_cell h]; rfl)

set_option maxRecDepth 100000 in
set_option maxHeartbeats 40000000 in
theorem check_any (s:ByteArray) (V:Int × Int × Int) (w:World) (hs:s.size≤maxLen)
  (hFl:(Pf.read s.data.toList).1=0→∀ a1 n1 c1 a2 n2 c2 bm lcs lms w',Below w.heap.size w w'→lcs.map Prod.fst=(Rd.read s.data.toList).1.classes→ClssIn w' bm (.slice a1 n1 c1) lcs→lms.map Prod.fst=(Rd.read s.data.toList).1.methods→MthsIn w' bm (.slice a2 n2 c2) lms →
   Calls Tryz.prog 19 #[.agg #[.slice a1 n1 c1,.slice a2 n2 c2]] w' fun e w''=>e=.returned (.agg #[.int .i64 V.1,.int .i64 V.2.1,.int .i64 V.2.2])∧Below w'.heap.size w' w'') :
  Calls Tryz.prog 10 #[.string s] w fun e w'=>∃ a1 n1 c1 a2 n2 c2,e=.returned (.tuple #[.agg #[.slice a1 n1 c1,.slice a2 n2 c2],.agg #[.int .i64 (Pk.check (Pf.read s.data.toList) V).1,.int .i64 (Pk.check (Pf.read s.data.toList) V).2.1,.int .i64 (Pk.check (Pf.read s.data.toList) V).2.2]]) ∧
    ((Pk.check (Pf.read s.data.toList) V).1=0→∃ bm lcs lms,lcs.map Prod.fst=(Rd.read s.data.toList).1.classes∧ClssIn w' bm (.slice a1 n1 c1) lcs∧lms.map Prod.fst=(Rd.read s.data.toList).1.methods∧MthsIn w' bm (.slice a2 n2 c2) lms)∧Below w.heap.size w w':=by
 have hRd:=fun w=>sread_any s w hs
 unfold Pk.check
 generalize Pf.read s.data.toList=P at *
 generalize Rd.read s.data.toList=q at *
 obtain ⟨P1,P2,P3⟩:=P
 obtain ⟨V1,V2,V3⟩:=V
 simp only at hRd hFl ⊢
 have HRD:=hide hRd
 have HFL:=hide hFl
 clear hRd hFl
 have hB0:=below2 w (.cells #[.slice none 0 0,.slice none 0 0] 38) (.cells #[.int .i64 0,.int .i64 0,.int .i64 0] 40)
 have C0:=alloc1_blk w (.cells #[.slice none 0 0,.slice none 0 0] 38) (.cells #[.int .i64 0,.int .i64 0,.int .i64 0] 40)
 have D0:=alloc2_blk w (.cells #[.slice none 0 0,.slice none 0 0] 38) (.cells #[.int .i64 0,.int .i64 0,.int .i64 0] 40)
 by_cases h1:P1=0
 ·subst h1
  by_cases h2:V1=0
  ·subst h2
   simp only [ne_eq,not_true_eq_false,if_false]
   go_enter Tryz.func10,Tryz.ntmps10
   go_wp2_with fail
   refine (unhide HRD _).mono ?_
   rintro e w1 ⟨a1,n1,c1,a2,n2,c2,rfl,hrep,hb1⟩
   obtain ⟨lcs,lms,hl1,hcs,hl2,hms⟩:=hrep (by trivial)
   have hB1:=hB0.trans (hb1.mono hB0.size)
   have hs1:=hB1.size
   have C1:=stay hb1 C0
   have D1:=stay hb1 D0
   have lD1:=lt_of_block D1
   have hBx:Below w1.heap.size w1 ((w1.alloc (.cells #[.slice a1 n1 c1,.slice a2 n2 c2] 38)).alloc (.cells #[.int .i64 0,.int .i64 P2,.int .i64 P3] 40)):=below2 _ _ _
   have hB2:=hB1.trans (hBx.mono hs1)
   have hcs2:=hcs.kp (Kp.of_below (e:=none) hBx) (by decide) (by decide)
   have hms2:=hms.kp (Kp.of_below (e:=none) hBx) (by decide) (by decide) (by decide) (by decide) (by decide)
   have hfl:=unhide HFL (by trivial) a1 n1 c1 a2 n2 c2 _ lcs lms _ hB2 hl1 hcs2 hl2 hms2
   have HF:=hide hfl
   have FB2:=alloc1_blk w1 (.cells #[.slice a1 n1 c1,.slice a2 n2 c2] 38) (.cells #[.int .i64 0,.int .i64 P2,.int .i64 P3] 40)
   have FA2:=alloc2_blk w1 (.cells #[.slice a1 n1 c1,.slice a2 n2 c2] 38) (.cells #[.int .i64 0,.int .i64 P2,.int .i64 P3] 40)
   have C2:=stay1 (stay1 C1 (.cells #[.slice a1 n1 c1,.slice a2 n2 c2] 38)) (.cells #[.int .i64 0,.int .i64 P2,.int .i64 P3] 40)
   have D2:=stay1 (stay1 D1 (.cells #[.slice a1 n1 c1,.slice a2 n2 c2] 38)) (.cells #[.int .i64 0,.int .i64 P2,.int .i64 P3] 40)
   have HL1:=hide hl1
   have HL2:=hide hl2
   clear hfl HFL HRD hb1 C0 D0 C1 D1 hcs hms hl1 hl2 hrep
   go_wp2_with fail
   refine (unhide HF).mono ?_
   rintro e w3 ⟨rfl,hb3⟩
   have hB3:=hB2.trans (hb3.mono hB2.size)
   have hs3:=hB3.size
   have C3:=stay hb3 C2
   have D3:=stay hb3 D2
   have FB3:=stay hb3 FB2
   have FA3:=stay hb3 FA2
   have hcs3:=hcs2.kp (Kp.of_below (e:=none) hb3) (by decide) (by decide)
   have hms3:=hms2.kp (Kp.of_below (e:=none) hb3) (by decide) (by decide) (by decide) (by decide) (by decide)
   have b0:=blk_cell FB3 0
   have b1:=blk_cell FB3 1
   have k0:=blk_cell FA3 0
   have k1:=blk_cell FA3 1
   have k2:=blk_cell FA3 2
   have j0:=blk_free FA3 0
   have j1:=blk_free FA3 1
   have j2:=blk_free FA3 2
   have lA:=lt_of_block FA3
   have lB:=lt_of_block FB3
   simp at b0 b1 k0 k1 k2
   have c0:=blk_cell C3 0
   have c1':=blk_cell C3 1
   have d0:=blk_cell D3 0
   have d1:=blk_cell D3 1
   have d2:=blk_cell D3 2
   have e0:=blk_free C3 0
   have e1:=blk_free C3 1
   have g0:=blk_free D3 0
   have g1:=blk_free D3 1
   have g2:=blk_free D3 2
   have lC:=lt_of_block C3
   have lD:=lt_of_block D3
   simp at c0 c1' d0 d1 d2
   clear hb3 C2 D2 FB2 FA2 HF
   have K1:=Kp.set (b:=w.heap.size+2) (i:=0) FA3 (.int .i64 0)
   have K2:=Kp.set (b:=w.heap.size+2) (i:=1) (set_blk (i:=0) FA3 (.int .i64 0)) (.int .i64 V2)
   have K3:=Kp.set (b:=w.heap.size+2) (i:=2) (set_blk (i:=1) (set_blk (i:=0) FA3 (.int .i64 0)) (.int .i64 V2)) (.int .i64 V3)
   have KK:=((((((K1.trans K2).trans K3).trans (Kp.set_lo (i:=0) (g:=w.heap.size) (by omega) (.slice a1 n1 c1))).trans (Kp.set_lo (i:=1) (g:=w.heap.size) (by omega) (.slice a2 n2 c2))).trans (Kp.set_lo (i:=0) (g:=w.heap.size+1) (by omega) (.int .i64 0))).trans (Kp.set_lo (i:=1) (g:=w.heap.size+1) (by omega) (.int .i64 0))).trans (Kp.set_lo (i:=2) (g:=w.heap.size+1) (by omega) (.int .i64 0))
   have hcs4:ClssIn w3 (w.heap.size+2) (.slice a1 n1 c1) lcs:=by simpa using hcs3
   have hms4:MthsIn w3 (w.heap.size+2) (.slice a2 n2 c2) lms:=by simpa using hms3
   have hcs5:=hcs4.kp KK (by decide) (by decide)
   have hms5:=hms4.kp KK (by decide) (by decide) (by decide) (by decide) (by decide)
   clear K1 K2 K3 KK hcs4 hms4 hcs3 hms3
   go_wp2_with fail
   refine bodyPost_ret (v:=.tuple #[.agg #[.slice a1 n1 c1,.slice a2 n2 c2],.agg #[.int .i64 0,.int .i64 0,.int .i64 0]]) (by simp [results,Tryz.results10,go_sem,c0,c1',d0,d1,d2]) rfl ?_
   exact ⟨a1,n1,c1,a2,n2,c2,rfl,fun _=>⟨_,lcs,lms,unhide HL1,hcs5,unhide HL2,hms5⟩,by repeat (first | (with_reducible exact hB3) | (with_reducible refine Below.setCell ?_ (by simp; omega) _) | (with_reducible refine Below.setCell ?_ (by simp) _))⟩
  ·have h2':(V1 != 0)=true:=by simpa using h2
   have HN2:=hide h2
   simp only [ne_eq,not_true_eq_false,if_false,h2,not_false_eq_true,if_true]
   clear h2
   go_enter Tryz.func10,Tryz.ntmps10
   go_wp2_with fail
   refine (unhide HRD _).mono ?_
   rintro e w1 ⟨a1,n1,c1,a2,n2,c2,rfl,hrep,hb1⟩
   obtain ⟨lcs,lms,hl1,hcs,hl2,hms⟩:=hrep (by trivial)
   have hB1:=hB0.trans (hb1.mono hB0.size)
   have hs1:=hB1.size
   have C1:=stay hb1 C0
   have D1:=stay hb1 D0
   have lD1:=lt_of_block D1
   have hBx:Below w1.heap.size w1 ((w1.alloc (.cells #[.slice a1 n1 c1,.slice a2 n2 c2] 38)).alloc (.cells #[.int .i64 0,.int .i64 P2,.int .i64 P3] 40)):=below2 _ _ _
   have hB2:=hB1.trans (hBx.mono hs1)
   have hcs2:=hcs.kp (Kp.of_below (e:=none) hBx) (by decide) (by decide)
   have hms2:=hms.kp (Kp.of_below (e:=none) hBx) (by decide) (by decide) (by decide) (by decide) (by decide)
   have hfl:=unhide HFL (by trivial) a1 n1 c1 a2 n2 c2 _ lcs lms _ hB2 hl1 hcs2 hl2 hms2
   have HF:=hide hfl
   have FB2:=alloc1_blk w1 (.cells #[.slice a1 n1 c1,.slice a2 n2 c2] 38) (.cells #[.int .i64 0,.int .i64 P2,.int .i64 P3] 40)
   have FA2:=alloc2_blk w1 (.cells #[.slice a1 n1 c1,.slice a2 n2 c2] 38) (.cells #[.int .i64 0,.int .i64 P2,.int .i64 P3] 40)
   have C2:=stay1 (stay1 C1 (.cells #[.slice a1 n1 c1,.slice a2 n2 c2] 38)) (.cells #[.int .i64 0,.int .i64 P2,.int .i64 P3] 40)
   have D2:=stay1 (stay1 D1 (.cells #[.slice a1 n1 c1,.slice a2 n2 c2] 38)) (.cells #[.int .i64 0,.int .i64 P2,.int .i64 P3] 40)
   have HL1:=hide hl1
   have HL2:=hide hl2
   clear hfl HFL HRD hb1 C0 D0 C1 D1 hcs hms hl1 hl2 hrep
   go_wp2_with fail
   refine (unhide HF).mono ?_
   rintro e w3 ⟨rfl,hb3⟩
   have hB3:=hB2.trans (hb3.mono hB2.size)
   have hs3:=hB3.size
   have C3:=stay hb3 C2
   have D3:=stay hb3 D2
   have FB3:=stay hb3 FB2
   have FA3:=stay hb3 FA2
   have hcs3:=hcs2.kp (Kp.of_below (e:=none) hb3) (by decide) (by decide)
   have hms3:=hms2.kp (Kp.of_below (e:=none) hb3) (by decide) (by decide) (by decide) (by decide) (by decide)
   have b0:=blk_cell FB3 0
   have b1:=blk_cell FB3 1
   have k0:=blk_cell FA3 0
   have k1:=blk_cell FA3 1
   have k2:=blk_cell FA3 2
   have j0:=blk_free FA3 0
   have j1:=blk_free FA3 1
   have j2:=blk_free FA3 2
   have lA:=lt_of_block FA3
   have lB:=lt_of_block FB3
   simp at b0 b1 k0 k1 k2
   have c0:=blk_cell C3 0
   have c1':=blk_cell C3 1
   have d0:=blk_cell D3 0
   have d1:=blk_cell D3 1
   have d2:=blk_cell D3 2
   have e0:=blk_free C3 0
   have e1:=blk_free C3 1
   have g0:=blk_free D3 0
   have g1:=blk_free D3 1
   have g2:=blk_free D3 2
   have lC:=lt_of_block C3
   have lD:=lt_of_block D3
   simp at c0 c1' d0 d1 d2
   clear hb3 C2 D2 FB2 FA2 HF
   clear hcs3 hms3 HL1 HL2
   go_wp2
   go_region
   all_goals
    go_wp2_with fail
    refine bodyPost_ret (v:=.tuple #[.agg #[.slice none 0 0,.slice none 0 0],.agg #[.int .i64 V1,.int .i64 V2,.int .i64 V3]]) (by simp [results,Tryz.results10,go_sem,c0,c1',d0,d1,d2]) rfl ?_
    exact ⟨none,0,0,none,0,0,rfl,fun h=>(by first | exact False.elim h | exact absurd h (unhide HN2)),by repeat (first | (with_reducible exact hB3) | (with_reducible refine Below.drew ?_) | (with_reducible refine Below.setCell ?_ (by simp; omega) _) | (with_reducible refine Below.setCell ?_ (by simp) _))⟩
 ·have h1':(P1 != 0)=true:=by simpa using h1
  have HN1:=hide h1
  simp only [ne_eq,h1,not_false_eq_true,if_true]
  go_enter Tryz.func10,Tryz.ntmps10
  go_wp2_with fail
  refine (unhide HRD _).mono ?_
  rintro e w1 ⟨a1,n1,c1,a2,n2,c2,rfl,-,hb1⟩
  have hB1:=hB0.trans (hb1.mono hB0.size)
  have hs1:=hB1.size
  have C1:=stay hb1 C0
  have D1:=stay hb1 D0
  have c0:=blk_cell C1 0
  have c1':=blk_cell C1 1
  have d0:=blk_cell D1 0
  have d1:=blk_cell D1 1
  have d2:=blk_cell D1 2
  have e0:=blk_free C1 0
  have e1:=blk_free C1 1
  have g0:=blk_free D1 0
  have g1:=blk_free D1 1
  have g2:=blk_free D1 2
  have lC:=lt_of_block C1
  have lD:=lt_of_block D1
  simp at c0 c1' d0 d1 d2
  have FA2:=alloc_blk (w1.alloc (.cells #[.slice a1 n1 c1,.slice a2 n2 c2] 38)) (.cells #[.int .i64 P1,.int .i64 P2,.int .i64 P3] 40)
  have s0:=f3cells FA2
  clear h1 HFL HRD hb1
  go_wp2
  go_region
  all_goals
   go_wp2_with fail
   refine bodyPost_ret (v:=.tuple #[.agg #[.slice none 0 0,.slice none 0 0],.agg #[.int .i64 P1,.int .i64 P2,.int .i64 P3]]) (by simp [results,Tryz.results10,go_sem,c0,c1',d0,d1,d2,lC,lD]) rfl ?_
   exact ⟨none,0,0,none,0,0,rfl,fun h=>(by first | exact False.elim h | exact absurd h (unhide HN1)),by repeat (first | (with_reducible exact hB1) | (with_reducible refine Below.drew ?_) | (with_reducible refine Below.alloc ?_ (by simp; omega) _) | (with_reducible refine Below.setCell ?_ (by simp) _))⟩

set_option maxRecDepth 100000 in
set_option maxHeartbeats 8000000 in
theorem Check_any (s:ByteArray) (V:Int × Int × Int) (w:World) (hs:s.size≤maxLen)
  (hFl:(Pf.read s.data.toList).1=0→∀ a1 n1 c1 a2 n2 c2 bm lcs lms w',Below w.heap.size w w'→lcs.map Prod.fst=(Rd.read s.data.toList).1.classes→ClssIn w' bm (.slice a1 n1 c1) lcs→lms.map Prod.fst=(Rd.read s.data.toList).1.methods→MthsIn w' bm (.slice a2 n2 c2) lms →
   Calls Tryz.prog 19 #[.agg #[.slice a1 n1 c1,.slice a2 n2 c2]] w' fun e w''=>e=.returned (.agg #[.int .i64 V.1,.int .i64 V.2.1,.int .i64 V.2.2])∧Below w'.heap.size w' w'') :
  Calls Tryz.prog 7 #[.string s] w fun e w'=>e=.returned (.tuple #[.int .i64 (Pk.check (Pf.read s.data.toList) V).1,.int .i64 (Pk.check (Pf.read s.data.toList) V).2.1,.int .i64 (Pk.check (Pf.read s.data.toList) V).2.2])∧Below w.heap.size w w':=by
 have hc:=check_any s V w hs hFl
 generalize Pk.check (Pf.read s.data.toList) V=R at *
 obtain ⟨R1,R2,R3⟩:=R
 simp only at hc ⊢
 have HC:=hide hc
 clear hc hFl
 go_enter Tryz.func7,Tryz.ntmps7
 go_wp2_with fail
 refine (unhide HC).mono ?_
 rintro e w1 ⟨a1,n1,c1,a2,n2,c2,rfl,-,hb1⟩
 have hB2:=(hb1.alloc hb1.size (.cells #[.slice a1 n1 c1,.slice a2 n2 c2] 38)).alloc (by have:=hb1.size; simp; omega) (.cells #[.int .i64 R1,.int .i64 R2,.int .i64 R3] 40)
 go_wp2
 go_region
 all_goals
  go_wp2
  go_ret3
  exact ⟨rfl,hB2.drew⟩
end Go.Proofs.YteffpdofcgbokaaGreat

/-
  The walk over the document's Check.
-/
namespace Go.Proofs.YteffpdofcgbokaaGreat
open Go.RowKit

/-- the first method of which something is told -/
def Ck.firstOf (CR:Rd.Mth→Int × Int):Nat→List Rd.Mth→Int × Int × Int
 | _,[]=>(0,0,0)
 | k,m :: r=>if (CR m).1 ≠ 0 then ((CR m).1,(k:Int),(CR m).2) else Ck.firstOf CR (k+1) r
def Ck.check (P V:Int × Int × Int):Int × Int × Int:=if P.1 ≠ 0 then P else V

theorem all_fst {α β:Type}{l:List (α × β)}{r:List α} (h:l.map Prod.fst=r) {p:α→Prop} (hp:∀ x∈r,p x):∀ y∈l,p y.1:=fun y hy=>hp y.1 (by rw [← h]; exact List.mem_map.2 ⟨y,hy,rfl⟩)

set_option maxRecDepth 100000 in
set_option maxHeartbeats 40000000 in
theorem rCheck_any (s:ByteArray) (CR:Rd.Mth→Int × Int) (w:World) (hs:s.size≤maxLen)
  (hCk:(Rf.formed s.data.toList).1=0→∀ (f:RFl) (m:RMV) (x:Rf.Mth) w',Below w.heap.size w w'→f.ok w'→f.l.map Prod.fst=Rf.given ++ (Rf.fil s.data.toList).1→f.ms.map Prod.fst=(Rf.fil s.data.toList).2.1→x∈(Rf.fil s.data.toList).2.1→m.is x w' f.bb →
   Calls Tryz.prog 52 #[f.val,m.val] w' fun e w''=>e=.returned (.tuple #[.int .i64 (CR x.m).1,.int .i64 (CR x.m).2])∧Below w'.heap.size w' w'') :
  Calls Tryz.prog 31 #[.string s] w fun e w'=>e=.returned (.tuple #[.int .i64 (Ck.check (Rf.formed s.data.toList) (Ck.firstOf CR 0 ((Rf.fil s.data.toList).2.1.map Rf.Mth.m))).1,.int .i64 (Ck.check (Rf.formed s.data.toList) (Ck.firstOf CR 0 ((Rf.fil s.data.toList).2.1.map Rf.Mth.m))).2.1,
   .int .i64 (Ck.check (Rf.formed s.data.toList) (Ck.firstOf CR 0 ((Rf.fil s.data.toList).2.1.map Rf.Mth.m))).2.2])∧Below w.heap.size w w':=by
 have hFm:=fun w=>rformed_any s w hs
 have hb1:=fil_bd s.data.toList
 have hb2:=fil_mbd s.data.toList
 unfold RFmdPost at hFm
 generalize hR:Ck.check (Rf.formed s.data.toList) (Ck.firstOf CR 0 ((Rf.fil s.data.toList).2.1.map Rf.Mth.m))=R
 unfold Ck.check at hR
 generalize Rf.formed s.data.toList=P at *
 generalize Rf.fil s.data.toList=Fi at *
 obtain ⟨P1,P2,P3⟩:=P
 obtain ⟨cs,ms,er⟩:=Fi
 simp only at hFm hCk hR hb1 hb2 ⊢
 have HFM:=hide hFm
 have HCK:=hide hCk
 clear hFm hCk
 by_cases h1:P1=0
 ·subst h1
  rw [if_neg (by simp)] at hR
  have HR:Hid (Ck.firstOf CR 0 ((ms.map Rf.Mth.m).drop 0)=R):=hR
  clear hR
  go_enter Tryz.func31,Tryz.ntmps31
  go_wp2_with fail
  refine (unhide HFM _).mono ?_
  rintro e w1 ⟨a1,n1,c1,a2,n2,c2,rfl,hrep,hb⟩
  obtain ⟨l1,l2,hl1,hcs,hl2,hms⟩:=hrep (by trivial)
  obtain ⟨xa,xc,hsh⟩:=own_shape hcs.1
  simp only [Value.slice.injEq] at hsh
  obtain ⟨rfl,rfl,rfl⟩:=hsh
  obtain ⟨xa,xc,hsh⟩:=own_shape hms.1
  simp only [Value.slice.injEq] at hsh
  obtain ⟨rfl,rfl,rfl⟩:=hsh
  have hn1:l1.length=7+cs.length:=by have:=congrArg List.length hl1; simp [Rf.given] at this; omega
  have hn2:l2.length=ms.length:=by have:=congrArg List.length hl2; simpa using this
  have hok1:RFl.ok ⟨a1,c1,a2,c2,w.heap.size,l1,l2⟩ w1:=⟨by simp only; omega,by simp only; omega,by simp only; omega,all_fst hl1 (p:=fun c=>c.fields.length≤1000) (by
   intro p hp
   rcases List.mem_append.1 hp with hp | hp
   ·simp [Rf.given] at hp; rcases hp with rfl | rfl | rfl | rfl | rfl | rfl | rfl <;> simp
   ·exact hb1.2 p hp),hcs,hms⟩
  have hB1:=hb
  have hs1:=hB1.size
  have hok2:=hok1.below ((Below.refl _ _).alloc (Nat.le_refl _) (.cells #[.slice a1 l1.length c1,.slice a2 l2.length c2] 28))
  have F1:=alloc_blk w1 (.cells #[.slice a1 l1.length c1,.slice a2 l2.length c2] 28)
  have hB2:=hB1.alloc hs1 (.cells #[.slice a1 l1.length c1,.slice a2 l2.length c2] 28)
  have HL1:=hide hl1
  have HL2:=hide hl2
  have HN1:=hide hn1
  have HN2:=hide hn2
  clear hb hrep hcs hms hok1 hB1 HFM hl1 hl2 hn1 hn2
  go_wp2
  go_loopw [9] (fun s9 wr=>∃ q:Nat,q≤l2.length∧s9=.int .i64 (q:Int)∧Hid (Ck.firstOf CR q ((ms.map Rf.Mth.m).drop q)=R)∧Below w.heap.size w wr∧wr.heap[w1.heap.size]?=some (.cells #[.slice a1 l1.length c1,.slice a2 l2.length c2] 28 (0,0))∧RFl.ok ⟨a1,c1,a2,c2,w.heap.size,l1,l2⟩ wr)
   (fun v _=>l2.length - (intOf v).toNat)
  case atStart=>exact ⟨0,by omega,rfl,HR,hB2,F1,hok2⟩
  case round =>
   clear HR hB2 F1 hok2
   obtain ⟨q,hq,rfl,HR,hB,CF,hok⟩:=hrel
   have hBs:=hB.size
   have lF:=lt_of_block CF
   have hl6:=hok.2.2.1
   simp only at hl6
   by_cases hkn:q < l2.length
   ·obtain ⟨m,g,hg,hglt,hcells,hm⟩:=RFl.mth hok (k:=q) hkn
    simp only at hg hm
    obtain ⟨y0,y1,y2,y3,y4,y5,y6,y7,y8,y9,ya,yb⟩:=row12 hcells
    have hqm:q < ms.length:=by have:=unhide HN2; omega
    have hx:l2[q].1=ms[q]:=by
     have:=unhide HL2
     have h2:(l2.map Prod.fst)[q]?=ms[q]?:=by rw [this]
     simpa [hkn,hqm] using h2
    rw [hx] at hm
    have hd:(ms.map Rf.Mth.m).drop q=ms[q].m :: (ms.map Rf.Mth.m).drop (q+1):=by rw [List.drop_eq_getElem_cons (by simpa using hqm)]; simp
    have hr:=unhide HR
    rw [hd,Ck.firstOf] at hr
    have hmem:=List.getElem_mem hqm
    have hck:=unhide HCK (by trivial) ⟨a1,c1,a2,c2,w.heap.size,l1,l2⟩ m ms[q] wr.drew hB.drew (hok.below (Below.refl _ _).drew) (unhide HL1) (unhide HL2) hmem (hm.below (Below.refl _ _).drew)
    generalize ms[q]=x at *
    generalize CR x.m=cr at *
    obtain ⟨cr1,cr2⟩:=cr
    obtain ⟨cl,nm,pa,pl,pc,r1,r2,lo,st,code,ha,hl,hc,ma,ml,mc,mAt,fin⟩:=m
    simp only [RFl.val,RMV.val] at hck hr y0 y1 y2 y3 y4 y5 y6 y7 y8 y9 ya yb
    subst hg
    have HCQ:=hide hck
    have kb:(q:Int) < (l2.length:Int):=by omega
    have f0:=blk_cell CF 0
    have f1:=blk_cell CF 1
    simp at f0 f1
    clear hck hd hcells hm HR hx hqm
    have CF2:wr.drew.heap[w1.heap.size]?=_:=CF
    have hr2:=hr
    clear hr
    go_wp2
    go_region_held3 (fun w'=>w'.cell? ⟨w1.heap.size,0,none⟩=some (.slice a1 l1.length c1)∧w'.cell? ⟨w1.heap.size,1,none⟩=some (.slice (some ⟨g,0,none⟩) l2.length c2)∧w'.cell? ⟨g,q * 12,none⟩=some (.int .i64 cl)∧w'.cell? ⟨g,q * 12+1,none⟩=some (.int .i64 nm)∧w'.cell? ⟨g,q * 12+2,none⟩=some (.slice pa pl pc)∧w'.cell? ⟨g,q * 12+3,none⟩=some (.int .i64 r1)∧w'.cell? ⟨g,q * 12+4,none⟩=some (.int .i64 r2)∧w'.cell? ⟨g,q * 12+5,none⟩=some (.int .i64 lo)∧w'.cell? ⟨g,q * 12+6,none⟩=some (.int .i64 st)∧w'.cell? ⟨g,q * 12+7,none⟩=some (.string code)∧w'.cell? ⟨g,q * 12+8,none⟩=some (.slice ha hl hc)∧w'.cell? ⟨g,q * 12+9,none⟩=some (.slice ma ml mc)∧w'.cell? ⟨g,q * 12+10,none⟩=some (.int .i64 mAt)∧w'.cell? ⟨g,q * 12+11,none⟩=some (.int .i64 fin))
     (first | exact ⟨f0,f1,y0,y1,y2,y3,y4,y5,y6,y7,y8,y9,ya,yb⟩ | exact ⟨(hb7.cell lF).trans f0,(hb7.cell lF).trans f1,(hb7.cell hglt).trans y0,(hb7.cell hglt).trans y1,(hb7.cell hglt).trans y2,(hb7.cell hglt).trans y3,(hb7.cell hglt).trans y4,(hb7.cell hglt).trans y5,(hb7.cell hglt).trans y6,(hb7.cell hglt).trans y7,(hb7.cell hglt).trans y8,(hb7.cell hglt).trans y9,(hb7.cell hglt).trans ya,(hb7.cell hglt).trans yb⟩)
     (first | (go_at_call 52; refine (unhide HCQ).mono ?_; rintro e w7 ⟨rfl,hb7⟩))
    have hB7:=hB.drew.trans (hb7.mono hBs)
    have CF7:=stay hb7 CF2
    have hok7:=(hok.below (Below.refl _ _).drew).below hb7
    clear f0 f1 y0 y1 y2 y3 y4 y5 y6 y7 y8 y9 ya yb hb7 HCQ
    by_cases h0:cr1=0
    ·rw [if_neg (by simpa using h0)] at hr2
     have HG:Hid (Ck.firstOf CR (q+1) ((ms.map Rf.Mth.m).drop (q+1))=R):=hr2
     subst h0
     clear hr2
     go_wp2
     go_roundw
     case rel=>exact ⟨q+1,by omega,by go_num,HG,hB7,CF7,hok7⟩
     case measure=>simp [intOf]; omega
    ·rw [if_pos h0] at hr2
     obtain rfl:=hr2
     have h0':(cr1 != 0)=true:=by simpa using h0
     clear h0
     go_wp2
     go_ret3
     exact ⟨rfl,hB7⟩
   ·have hr:=unhide HR
    rw [List.drop_eq_nil_of_le (by have:=unhide HN2; simp; omega),Ck.firstOf] at hr
    obtain rfl:=hr
    have kb:¬ (q:Int) < (l2.length:Int):=by omega
    have f0:=blk_cell CF 0
    have f1:=blk_cell CF 1
    simp at f0 f1
    clear HR
    go_wp2
    go_ret3
    exact ⟨rfl,hB⟩
 ·have h1':(P1 != 0)=true:=by simpa using h1
  rw [if_pos (by simpa using h1)] at hR
  obtain rfl:=hR
  clear h1 HCK
  go_enter Tryz.func31,Tryz.ntmps31
  go_wp2_with fail
  refine (unhide HFM _).mono ?_
  rintro e w1 ⟨a1,n1,c1,a2,n2,c2,rfl,-,hb⟩
  go_wp2
  go_ret3
  exact ⟨rfl,hb.alloc hb.size _⟩
end Go.Proofs.YteffpdofcgbokaaGreat

/-
  The program's look is the document's, of frames whose types are types.
-/
namespace Go.Proofs.YteffpdofcgbokaaGreat

def Ck.argF (T:List Int) (x:Ck.Fr):Prop:=(∀ t∈x.locals,Tr.Arg T t.1 t.2)∧∀ t∈x.stack,Tr.Arg T t.1 t.2
theorem top_same (T:List Int) (a b:List (Int × Int)) (h:a.length=b.length):Ck.top T a b=Ck.fitAll T a b:=by
 unfold Ck.top
 rw [if_neg (by omega),h,Nat.sub_self,List.drop_zero]
theorem frameFits_eq {T:List Int} (hT:Tr.Ok T) {x y:Ck.Fr} (hx:Ck.argF T x) (hy:Ck.argF T y):Ck.frameFits T x y=Pk.frameFits T x y:=by
 unfold Ck.frameFits Pk.frameFits Pk.allFit
 by_cases h1:x.stack.length=y.stack.length
 ·rw [if_neg (fun g=>g h1),if_pos h1]
  by_cases h2:x.locals.length=y.locals.length
  ·rw [if_neg (fun g=>g h2),if_pos h2,top_same T _ _ h2,top_same T _ _ h1,fitAll_eq hT _ _ hx.1 hy.1,fitAll_eq hT _ _ hx.2 hy.2]
  ·rw [if_pos h2,if_neg h2]; rfl
 ·rw [if_pos h1,if_neg h1,Bool.and_false]

theorem takes_eq (T:List Int) (cs:List Rd.Cls) (h7:7≤cs.length) (hg:∀ i,i < 7→(cs.getD i ⟨0,[]⟩).fields=[]) (ms:List Rd.Mth) (res:Int × Int) (op:Int) (n:Nat) (hn:op=17∨op=18→n < (Rf.fieldsTo T cs (cs.length - 7)).length) :
  Pk.takes (cs.map Rd.Cls.fields) ms res op (n:Int)=Ck.takes (Rf.fieldsTo T cs (cs.length - 7)) ms res op (n:Int):=by
 unfold Pk.takes Ck.takes
 by_cases h17:op=17
 ·subst h17
  rw [field_eq T cs h7 hg n (hn (.inl rfl)),Int.toNat_natCast]
 ·by_cases h18:op=18
  ·subst h18
   rw [field_eq T cs h7 hg n (hn (.inr rfl)),Int.toNat_natCast]
  ·simp only [h17,h18,if_false]
theorem leaves_eq (T:List Int) (cs:List Rd.Cls) (h7:7≤cs.length) (hg:∀ i,i < 7→(cs.getD i ⟨0,[]⟩).fields=[]) (ms:List Rd.Mth) (op:Int) (n:Nat) (hn:op=17→n < (Rf.fieldsTo T cs (cs.length - 7)).length) :
  Pk.leaves (cs.map Rd.Cls.fields) ms op (n:Int)=Ck.leaves (Rf.fieldsTo T cs (cs.length - 7)) ms op (n:Int):=by
 unfold Pk.leaves Ck.leaves
 by_cases h17:op=17
 ·subst h17
  rw [field_eq T cs h7 hg n (hn rfl),Int.toNat_natCast]
  simp
 ·simp only [h17,if_false]
  have:(op=0∨op=24∨op=7∨op=8∨op=9∨op=10)↔(op=0∨op=7∨op=8∨op=9∨op=10∨op=24):=by omega
  simp only [this]

theorem fitsAny_none {T:List Int}{mp:Int→Option Ck.Fr}{x:Ck.Fr}{q:Int} (h:mp q=none):Pk.fitsAny T mp x q=true:=by unfold Pk.fitsAny; rw [h]; rfl
theorem fitsAny_some {T:List Int} (hT:Tr.Ok T) {mp:Int→Option Ck.Fr}{x z:Ck.Fr}{q:Int} (h:mp q=some z) (hx:Ck.argF T x) (hz:Ck.argF T z):Pk.fitsAny T mp x q=Ck.frameFits T x z:=by
 unfold Pk.fitsAny
 rw [h,frameFits_eq hT hx hz]
 rfl

theorem jump_none {T:List Int}{mp:Int→Option Ck.Fr}{x:Ck.Fr}{q:Int} (h:mp q=none):Pk.jump T mp x q=8:=by unfold Pk.jump; rw [h]; rfl
theorem jump_bad {T:List Int} (hT:Tr.Ok T) {mp:Int→Option Ck.Fr}{x z:Ck.Fr}{q:Int} (h:mp q=some z) (hx:Ck.argF T x) (hz:Ck.argF T z) (hf:Ck.frameFits T x z=false):Pk.jump T mp x q=9:=by
 unfold Pk.jump
 rw [if_neg (by rw [h]; simp),if_pos (by rw [fitsAny_some hT h hx hz]; exact hf)]
theorem jump_good {T:List Int} (hT:Tr.Ok T) {mp:Int→Option Ck.Fr}{x z:Ck.Fr}{q:Int} (h:mp q=some z) (hx:Ck.argF T x) (hz:Ck.argF T z) (hf:Ck.frameFits T x z=true):Pk.jump T mp x q=0:=by
 unfold Pk.jump
 rw [if_neg (by rw [h]; simp),if_neg (by rw [fitsAny_some hT h hx hz,hf]; simp)]
theorem handlers_eq {T:List Int} (hT:Tr.Ok T) (mp:Int→Option Ck.Fr) (hmp:∀ q z,mp q=some z→Ck.argF T z) (p:Int) (lo:List (Int × Int)) (hlo:∀ t∈lo,Tr.Arg T t.1 t.2):∀ hs:List Rd.Hnd,(∀ h∈hs,Tr.Arg T 3 h.cl) →
  Pk.handlers T mp p lo hs=Ck.handlers T mp p lo hs
 | [],_=>rfl
 | h :: r,hh=>by
  have ih:=handlers_eq hT mp hmp p lo hlo r (fun x hx=>hh x (by simp [hx]))
  rw [Pk.handlers,Ck.handlers,ih]
  unfold Pk.covers
  by_cases h1:p < h.frm
  ·have e:decide (h.frm≤p)=false:=by simp; omega
   rw [e,Bool.false_and,if_pos rfl,if_pos h1]
  ·have e:decide (h.frm≤p)=true:=by simp; omega
   rw [e,Bool.true_and,if_neg h1]
   by_cases h2:h.til≤p
   ·have e2:decide (p < h.til)=false:=by simp; omega
    rw [e2,if_pos rfl,if_pos h2]
   ·have e2:decide (p < h.til)=true:=by simp; omega
    rw [e2,if_neg (by simp),if_neg h2]
    cases hm:mp h.target with
    | none =>
     rw [jump_none hm,if_pos (show (8:Int) ≠ 0 by decide),if_pos (show (none:Option Ck.Fr).isSome=false from rfl)]
    | some z =>
     have hx:Ck.argF T ⟨lo,[(3,h.cl)]⟩:=⟨hlo,fun t ht=>by obtain rfl:=List.mem_singleton.1 ht; exact hh h (by simp)⟩
     have e3:Ck.orNone (some z)=z:=rfl
     rw [e3,if_neg (show ¬ (some z).isSome=false by simp)]
     cases hf:Ck.frameFits T ⟨lo,[(3,h.cl)]⟩ z with
     | false=>rw [jump_bad hT hm hx (hmp _ _ hm) hf,if_pos (show (9:Int) ≠ 0 by decide),if_pos rfl]
     | true=>rw [jump_good hT hm hx (hmp _ _ hm) hf,if_neg (show ¬ (0:Int) ≠ 0 by decide),if_neg (show ¬ true=false by decide)]

theorem look_eq {T:List Int} (hT:Tr.Ok T) (mp:Int→Option Ck.Fr) (hmp:∀ q z,mp q=some z→Ck.argF T z) (H:Int) (B:Option Ck.Fr) (hB:∀ y,B=some y→Ck.argF T y) (op n nxt len:Int):Pk.look T mp H B op n nxt len=Ck.look T mp H B op n nxt len:=by
 unfold Pk.look Ck.look
 by_cases h0:H ≠ 0
 ·rw [if_pos h0,if_pos h0]
 ·rw [if_neg h0,if_neg h0]
  cases B with
  | none=>rfl
  | some y =>
   have hy:=hB y rfl
   have e:Ck.orNone (some y)=y:=rfl
   rw [if_neg (show ¬ (some y).isSome=false by simp),if_neg (show ¬ (some y).isSome=false by simp),e]
   have hgo:(if Ck.goes op=false then 0 else Pk.goOn T mp len y nxt)=(if Ck.goes op=false then 0 else if len≤nxt then 11 else if (mp nxt).isSome=true∧Ck.frameFits T y (Ck.orNone (mp nxt))=false then 9 else 0):=by
    by_cases hg:Ck.goes op=false
    ·rw [if_pos hg,if_pos hg]
    ·rw [if_neg hg,if_neg hg]
     unfold Pk.goOn
     by_cases hl:len≤nxt
     ·rw [if_pos hl,if_pos hl]
     ·rw [if_neg hl,if_neg hl]
      cases hm:mp nxt with
      | none=>rw [fitsAny_none hm,if_neg (by simp),if_neg (by simp)]
      | some z =>
       have e3:Ck.orNone (some z)=z:=rfl
       rw [fitsAny_some hT hm hy (hmp _ _ hm),e3]
       cases hf:Ck.frameFits T y z with
       | false=>rw [if_pos rfl,if_pos ⟨rfl,rfl⟩]
       | true=>rw [if_neg (by simp),if_neg (by simp)]
   cases hj:Ck.jumps op with
   | false=>rw [if_neg (show ¬ (false=true∧Pk.jump T mp y n ≠ 0) by simp),if_neg (show ¬ (false=true∧(mp n).isSome=false) by simp),if_neg (show ¬ (false=true∧Ck.frameFits T y (Ck.orNone (mp n))=false) by simp)]; exact hgo
   | true =>
    cases hm:mp n with
    | none=>rw [jump_none hm,if_pos (show true=true∧(8:Int) ≠ 0 by decide),if_pos (show true=true∧(none:Option Ck.Fr).isSome=false from ⟨rfl,rfl⟩)]
    | some z =>
     have e3:Ck.orNone (some z)=z:=rfl
     rw [e3]
     cases hf:Ck.frameFits T y z with
     | false=>rw [jump_bad hT hm hy (hmp _ _ hm) hf,if_pos (show true=true∧(9:Int) ≠ 0 by decide),if_neg (show ¬ (true=true∧(some z).isSome=false) by simp),if_pos (show true=true∧false=false from ⟨rfl,rfl⟩)]
     | true =>
      rw [jump_good hT hm hy (hmp _ _ hm) hf,if_neg (show ¬ (true=true∧(0:Int) ≠ 0) by decide),if_neg (show ¬ (true=true∧(some z).isSome=false) by simp),if_neg (show ¬ (true=true∧true=false) by decide)]
      exact hgo
end Go.Proofs.YteffpdofcgbokaaGreat

/-
  The program's one pass is the document's.
-/
namespace Go.Proofs.YteffpdofcgbokaaGreat

theorem starts_ord (c:List Int):∀ (k p:Nat),(∀ q∈Cd.starts c k p,p≤q)∧(Cd.starts c k p).Pairwise (· < ·)
 | 0,p=>by simp [Cd.starts]
 | k+1,p=>by
  have hw:=Cd.wd_bd (c.getD p 0)
  obtain ⟨h1,h2⟩:=starts_ord c k (p+Cd.wd (c.getD p 0))
  unfold Cd.starts
  split
  ·refine ⟨fun q hq=>?_,List.pairwise_cons.2 ⟨fun q hq=>?_,h2⟩⟩
   ·rcases List.mem_cons.1 hq with rfl | hq
    ·exact Nat.le_refl _
    ·have:=h1 q hq; omega
   ·have:=h1 q hq; omega
  ·simp
theorem places_lt (c:List Int):(Cd.places c).Pairwise (· < ·):=(starts_ord c c.length 0).2

/-- the walk over instructions is the pass over places -/
theorem walk_pass (mp:Int→Option Ck.Fr) (rl:Nat→Ck.Fr→Option Ck.Fr) (lk:Nat→Ck.Fr→Int) (c:List Int) (lkP:Cd.Ins→Ck.Fr→Int) (bh:Cd.Ins→Ck.Fr→Option Ck.Fr) (P:Ck.Fr→Prop) (hPm:∀ q z,mp q=some z→P z) :
  ∀ (ps:List Nat),(∀ p∈ps,∀ x,P x→lkP (Cd.insAt c p) x=lk p x∧(lk p x=0→∃ y,rl p x=some y∧bh (Cd.insAt c p) x=some y∧P y))→∀ o:Option Ck.Fr,(∀ x,o=some x→P x) →
   Pk.walk mp lkP bh (ps.map (Cd.insAt c)) o=Ck.pass (fun p=>mp (p:Int)) rl (fun p=>Ck.goes (c.getD p 0)) lk ps o
 | [],_,_,_=>rfl
 | p :: r,h,o,ho=>by
  have ih:=walk_pass mp rl lk c lkP bh P hPm r (fun q hq=>h q (by simp [hq]))
  rw [List.map_cons,Pk.walk,Ck.pass]
  have e1:(Cd.insAt c p).place=(p:Int):=rfl
  have e2:(Cd.insAt c p).op=c.getD p 0:=rfl
  rw [e1,e2]
  cases hm:(mp (p:Int)).or o with
  | none=>exact ih none (fun x hx=>by cases hx)
  | some x =>
   have hPx:P x:=by
    cases hq:mp (p:Int) with
    | none=>rw [hq] at hm; exact ho x hm
    | some z=>rw [hq] at hm; obtain rfl:=Option.some.inj hm; exact hPm _ _ hq
   obtain ⟨g1,g2⟩:=h p (by simp) x hPx
   simp only
   rw [g1]
   by_cases hz:lk p x=0
   ·rw [if_neg (show ¬ lk p x ≠ 0 from fun g=>g hz),if_neg (show ¬ lk p x ≠ 0 from fun g=>g hz)]
    obtain ⟨y,hy1,hy2,hPy⟩:=g2 hz
    have hst:Ck.step (fun p=>mp (p:Int)) rl (fun p=>Ck.goes (c.getD p 0)) p o=if Ck.goes (c.getD p 0)=true then some y else none:=by
     unfold Ck.step
     simp only
     rw [hm]
     simp only [Option.bind_some]
     rw [hy1]
     rfl
    rw [hst,hy2]
    refine ih _ (fun x' hx'=>?_)
    split at hx'
    ·obtain rfl:=Option.some.inj hx'; exact hPy
    ·cases hx'
   ·rw [if_pos (show lk p x ≠ 0 from hz),if_pos (show lk p x ≠ 0 from hz)]

/-- of one method: what the program finds is what the document finds -/
theorem find_checked {T:List Int} (hT:Tr.Ok T) (mp:Int→Option Ck.Fr) (rl:Nat→Ck.Fr→Option Ck.Fr) (lk:Nat→Ck.Fr→Int) (c:List Int) (lkP:Cd.Ins→Ck.Fr→Int) (bh:Cd.Ins→Ck.Fr→Option Ck.Fr) (P:Ck.Fr→Prop) (hPA:∀ x,P x→Ck.argF T x) (hPm:∀ q z,mp q=some z→P z) (x0:Ck.Fr) (hP0:P x0)
  (h:∀ p∈Cd.places c,∀ x,P x→lkP (Cd.insAt c p) x=lk p x∧(lk p x=0→∃ y,rl p x=some y∧bh (Cd.insAt c p) x=some y∧P y)) :
  Pk.find T mp lkP bh (Cd.insts c) x0=Ck.checked T (mp 0) x0 (fun q=>Ck.ahead (fun p=>mp (p:Int)) rl (fun p=>Ck.goes (c.getD p 0)) q (Cd.places c) (some x0)) lk (Cd.places c):=by
 unfold Pk.find Ck.checked Cd.insts
 have hl:=lookAll_pass (fun p=>mp (p:Int)) rl (fun p=>Ck.goes (c.getD p 0)) lk (some x0) (Cd.places c) [] (by simpa using places_lt c)
 simp only [List.nil_append,List.foldl_nil] at hl
 rw [hl,walk_pass mp rl lk c lkP bh P hPm (Cd.places c) h (some x0) (fun x hx=>by obtain rfl:=Option.some.inj hx; exact hP0)]
 cases hm:mp 0 with
 | none=>rw [fitsAny_none hm,if_neg (show ¬ true=false by decide),if_neg (show ¬ ((none:Option Ck.Fr).isSome=true∧Ck.frameFits T x0 (Ck.orNone none)=false) by simp)]
 | some z =>
  have e3:Ck.orNone (some z)=z:=rfl
  rw [fitsAny_some hT hm (hPA _ hP0) (hPA _ (hPm _ _ hm)),e3]
  cases hf:Ck.frameFits T x0 z with
  | false=>rw [if_pos rfl,if_pos (show (some z).isSome=true∧false=false from ⟨rfl,rfl⟩)]
  | true=>rw [if_neg (show ¬ true=false by decide),if_neg (show ¬ ((some z).isSome=true∧true=false) by simp)]
theorem firstOf_eq (f g:Rd.Mth→Int × Int):∀ (ms:List Rd.Mth) (k:Nat),(∀ m∈ms,f m=g m)→Pk.firstOf f k ms=Ck.firstOf g k ms
 | [],_,_=>rfl
 | m :: r,k,h=>by rw [Pk.firstOf,Ck.firstOf,h m (by simp),firstOf_eq f g r (k+1) (fun x hx=>h x (by simp [hx]))]
end Go.Proofs.YteffpdofcgbokaaGreat

/-
  What a file without an error of form is: its classes, and each of its methods.
-/
namespace Go.Proofs.YteffpdofcgbokaaGreat

theorem heads_all {T:List Int}{ms:List Rd.Mth}:∀ (l:List Rd.Mth) (k:Nat),Fm.heads T ms k l < 0→∀ m∈l,∃ j,Fm.headOk T ms j m=true
 | [],_,_=>by simp
 | m :: r,k,h=>by
  rw [Fm.heads] at h
  by_cases h1:Fm.headOk T ms k m=false
  ·rw [if_pos h1] at h; omega
  ·rw [if_neg h1] at h
   intro x hx
   rcases List.mem_cons.1 hx with rfl | hx
   ·exact ⟨k,by simpa using h1⟩
   ·exact heads_all r _ h x hx
theorem bodies_all {T:List Int}{nf:Int}{ow:List Int}:∀ (l:List Rd.Mth) (k:Nat),(Fm.bodies T nf ow k l).1=0→∀ m∈l,(Fm.body T nf ow m).1=0
 | [],_,_=>by simp
 | m :: r,k,h=>by
  rw [Fm.bodies] at h
  by_cases h1:(Fm.body T nf ow m).1 ≠ 0
  ·rw [if_pos h1] at h; exact absurd h h1
  ·rw [if_neg h1] at h
   intro x hx
   rcases List.mem_cons.1 hx with rfl | hx
   ·simpa using h1
   ·exact bodies_all r _ h x hx
theorem inCl_all {T:List Int}:∀ (l:List Rd.Cls) (k:Nat),(Tr.inCl T k l).1=0→∀ c∈l,Tr.allPlainB T c.fields=true
 | [],_,_=>by simp
 | c :: r,k,h=>by
  rw [Tr.inCl] at h
  by_cases h1:7+(k:Int)≤c.above
  ·rw [if_pos h1] at h; simp at h
  ·rw [if_neg h1] at h
   by_cases h2:Tr.allPlainB T c.fields=false
   ·rw [if_pos h2] at h; simp at h
   ·rw [if_neg h2] at h
    intro x hx
    rcases List.mem_cons.1 hx with rfl | hx
    ·simpa using h2
    ·exact inCl_all r _ h x hx
theorem firstIx_all {α:Type}{f:α→Bool}:∀ (l:List α) (k:Nat),Cd.firstIx f k l < 0→∀ x∈l,f x=false
 | [],_,_=>by simp
 | x :: r,k,h=>by
  rw [Cd.firstIx] at h
  by_cases h1:f x=true
  ·rw [if_pos h1] at h; omega
  ·rw [if_neg h1] at h
   intro y hy
   rcases List.mem_cons.1 hy with rfl | hy
   ·simpa using h1
   ·exact firstIx_all r _ h y hy
theorem mapsBad_all {T c:List Int}:∀ (l:List Rd.Mp) (i:Nat) (last:Int),Cd.mapsBad T c i last l < 0→∀ x∈l,Cd.frAll T c x.locals=true∧Cd.frAll T c x.stack=true∧Cd.begB c x.place=true
 | [],_,_,_=>by simp
 | m :: r,i,last,h=>by
  rw [Cd.mapsBad] at h
  by_cases h1:Cd.begB c m.place=false
  ·rw [if_pos h1] at h; omega
  ·rw [if_neg h1] at h
   by_cases h2:m.place≤last
   ·rw [if_pos h2] at h; omega
   ·rw [if_neg h2] at h
    by_cases h3:Cd.frAll T c m.locals=false
    ·rw [if_pos h3] at h; omega
    ·rw [if_neg h3] at h
     by_cases h4:Cd.frAll T c m.stack=false
     ·rw [if_pos h4] at h; omega
     ·rw [if_neg h4] at h
      intro y hy
      rcases List.mem_cons.1 hy with rfl | hy
      ·exact ⟨by simpa using h3,by simpa using h4,by simpa using h1⟩
      ·exact mapsBad_all r _ _ h y hy

/-- what the reader gives of a method, whatever the bytes -/
structure Pf.MRd (m:Rd.Mth):Prop where
 lo:0≤m.locals∧m.locals≤8
 st:0≤m.stack∧m.stack≤8
 ml:∀ q∈m.maps,q.locals.length=m.locals.toNat∧(q.stack.length:Int)≤m.stack
 c255:∀ x∈m.code,x≤255
theorem mp_len (s:List UInt8) (L H:Int) (hH:0≤H) (t:Rd.St):(Rd.mp s L H t).1.locals.length=L.toNat∧((Rd.mp s L H t).1.stack.length:Int)≤H:=by
 simp only [Rd.mp,Rd.tys,Rd.rep_len]
 have:=Rd.cn_bd s 0 H (Rd.rep (Rd.ty s) L.toNat (Rd.nx s t).2).2 hH
 exact ⟨trivial,by omega⟩
theorem mth_rd (s:List UInt8) (t:Rd.St):Pf.MRd (Rd.mth s t).1:=by
 simp only [Rd.mth]
 generalize (Rd.nx s (Rd.nx s t).2).2=t1
 generalize Rd.cn s 0 4 t1=p at *
 generalize (Rd.tys s p.1.toNat p.2).2=t2
 generalize (Rd.ty s t2).2=t3
 have h2:=Rd.cn_bd s 0 8 t3 (by omega)
 generalize Rd.cn s 0 8 t3=l at *
 have h3:=Rd.cn_bd s 0 8 l.2 (by omega)
 generalize Rd.cn s 0 8 l.2=h at *
 refine ⟨h2,h3,?_,by simp only [Rd.codes]; exact rep_all (fun x:Int=>x≤255) _ (fun t=>(Rd.nx_bd s t).2) _ _⟩
 simp only [Rd.mps]
 exact rep_all (fun q:Rd.Mp=>q.locals.length=l.1.toNat∧(q.stack.length:Int)≤h.1) _ (fun t=>mp_len s l.1 h.1 h3.1 t) _ _
theorem read_rd (s:List UInt8):∀ m∈(Rd.read s).1.methods,Pf.MRd m:=by
 unfold Rd.read
 split
 ·simp
 ·split
  ·simp
  ·simp only [Rd.fil]
   exact rep_all Pf.MRd _ (fun t=>mth_rd s t) _ _

/-- a method of a file without an error of form; T: the tree, nf: how many fields, ms: the methods -/
structure Fm.Good (T:List Int) (nf:Int) (ms:List Rd.Mth) (m:Rd.Mth):Prop where
 bd:Pf.MBd m
 rd:Pf.MRd m
 unread:Cd.unread m.code < 0
 arg:∀ p∈Cd.places m.code,Cd.argAt T nf (ms.map Rd.Mth.cl) m.locals m.code p=true
 hnd:∀ h∈m.handlers,Cd.hndBad T m.code h=false
 map:∀ q∈m.maps,Cd.frAll T m.code q.locals=true∧Cd.frAll T m.code q.stack=true∧Cd.begB m.code q.place=true
 cl:m.cl=255∨Tr.hasB T m.cl=true
 res:Tr.plainB T m.result.1 m.result.2=true∨m.result=(0,0)
 ps:Tr.allPlainB T m.params=true
 own:((Ck.own m.cl m.params).length:Int)≤m.locals
theorem body_good {T:List Int}{nf:Int}{ms:List Rd.Mth}{m:Rd.Mth} (hb:Pf.MBd m) (hr:Pf.MRd m) (hh:∃ j,Fm.headOk T ms j m=true) (h:(Fm.body T nf (ms.map Rd.Mth.cl) m).1=0):Fm.Good T nf ms m:=by
 unfold Fm.body at h
 by_cases h1:0≤Cd.badCode T nf (ms.map Rd.Mth.cl) m.locals m.code
 ·rw [if_pos h1] at h; simp at h
 rw [if_neg h1] at h
 by_cases h2:0≤Cd.firstIx (Cd.hndBad T m.code) 0 m.handlers
 ·rw [if_pos h2] at h; simp at h
 rw [if_neg h2] at h
 by_cases h3:0≤Cd.mapsBad T m.code 0 (-1) m.maps
 ·rw [if_pos h3] at h; simp at h
 unfold Cd.badCode at h1
 have hu:Cd.unread m.code < 0:=by
  by_cases hu:0≤Cd.unread m.code
  ·rw [if_pos hu] at h1; exact absurd hu h1
  ·omega
 rw [if_neg (by omega)] at h1
 obtain ⟨j,hj⟩:=hh
 unfold Fm.headOk Hd.headB at hj
 by_cases g1:Hd.bad1 T m.cl m.name m.result.1 m.result.2=true
 ·rw [if_pos g1] at hj; simp at hj
 rw [if_neg g1] at hj
 by_cases g2:Tr.allPlainB T m.params=false
 ·rw [if_pos g2] at hj; simp at hj
 rw [if_neg g2] at hj
 by_cases g3:Hd.bad3 m.cl m.locals m.params=true
 ·rw [if_pos g3] at hj; simp at hj
 unfold Hd.bad1 at g1
 unfold Hd.bad3 at g3
 simp only [Bool.or_eq_true,Bool.and_eq_true,decide_eq_true_eq,Bool.not_eq_true',decide_eq_false_iff_not,not_or,not_and] at g1 g3
 have g4:Cd.firstIx (Cd.hndBad T m.code) 0 m.handlers < 0:=by omega
 have g5:Cd.mapsBad T m.code 0 (-1) m.maps < 0:=by omega
 have g6:Cd.first (Cd.badArg T nf (ms.map Rd.Mth.cl) m.locals m.code) (Cd.places m.code) < 0:=by omega
 refine ⟨hb,hr,hu,?_,firstIx_all _ _ g4,mapsBad_all _ _ _ g5,?_,?_,by simpa using g2,?_⟩
 ·intro p hp
  have:=first_all g6 p hp
  unfold Cd.badArg at this
  simpa using this
 ·by_cases h255:m.cl=255
  ·exact .inl h255
  ·have:=g1.1
   rw [if_neg h255] at this
   simp at this
   exact .inr this.1
 ·by_cases hp:Tr.plainB T m.result.1 m.result.2=true
  ·exact .inl hp
  ·have:=g1.2 (by simpa using hp)
   exact .inr (by simpa [Prod.ext_iff] using this)
 ·unfold Ck.own
  by_cases h255:m.cl=255
  ·rw [if_pos h255]; simp; omega
  ·rw [if_neg h255]
   have:=g3.2 h255
   simp; omega

/-- a file without an error of form -/
structure Fm.Ok (cs:List Rd.Cls) (ms:List Rd.Mth):Prop where
 ok:Tr.Ok (Tr.tree cs)
 l6:cs.length≤6
 m6:ms.length≤6
 fn:∀ c∈cs,c.fields.length≤1000
 fl:∀ c∈cs,Tr.allPlainB (Tr.tree cs) c.fields=true
 mt:∀ m∈ms,Fm.Good (Tr.tree cs) (Cd.fieldSum cs:Int) ms m
theorem formed_good (s:List UInt8) (h:(Rf.formed s).1=0):Fm.Ok (Rd.read s).1.classes (Rd.read s).1.methods∧(Rf.fil s).1=(Rd.read s).1.classes∧(Rf.fil s).2.1.map Rf.Mth.m=(Rd.read s).1.methods:=by
 rw [← read_formed] at h
 obtain ⟨hc6,hfn⟩:=read_bd s
 obtain ⟨hm6,hmb⟩:=read_mbd s
 have hrd:=read_rd s
 unfold Pf.read at h
 by_cases h0:(Rd.read s).2 ≠ 0
 ·rw [if_pos h0] at h; exact absurd h h0
 rw [if_neg h0] at h
 obtain ⟨e1,e2⟩:=(read_fil s).2 (by simpa using h0)
 refine ⟨?_,e1.symm,e2.symm⟩
 unfold Pf.find at h
 by_cases h1:(Tr.inCl (Tr.tree (Rd.read s).1.classes) 0 (Rd.read s).1.classes).1 ≠ 0
 ·rw [if_pos h1] at h; exact absurd h h1
 rw [if_neg h1] at h
 have h1':(Tr.inCl (Tr.tree (Rd.read s).1.classes) 0 (Rd.read s).1.classes).1=0:=by simpa using h1
 have hT:=tree_ok _ (read_pos s) h1'
 have hTl:=tree_len (Rd.read s).1.classes
 rw [rest_eq hT (by omega) (by omega) _ _ (fun o ho=>(hmb o ho).cl) (fun m hm=>(hmb m hm).code0)] at h
 unfold Fm.rest at h
 by_cases h2:0≤Fm.heads (Tr.tree (Rd.read s).1.classes) (Rd.read s).1.methods 0 (Rd.read s).1.methods
 ·rw [if_pos h2] at h; simp at h
 rw [if_neg h2] at h
 have h3:Fm.heads (Tr.tree (Rd.read s).1.classes) (Rd.read s).1.methods 0 (Rd.read s).1.methods < 0:=by omega
 exact ⟨hT,hc6,hm6,hfn,inCl_all _ _ h1',fun m hm=>body_good (hmb m hm) (hrd m hm) (heads_all _ _ h3 m hm) (bodies_all _ _ h m hm)⟩
end Go.Proofs.YteffpdofcgbokaaGreat

/-
  A method of a file without an error of form: what its instructions take and leave are types; its frames as they come up.
-/
namespace Go.Proofs.YteffpdofcgbokaaGreat

/-- the number at a place of the code, or -1 -/
def Cd.atI (c:List Int) (i:Int):Int:=if i < 0 then -1 else if (c.length:Int)≤i then -1 else c.getD i.toNat 0
theorem atI_eq (s:ByteArray) (i:Int):Rf.at' s.data.toList i=Cd.atI (nums s) i:=by
 unfold Rf.at' Cd.atI
 rw [nums_len]
 have hl:s.data.toList.length=s.size:=by simp
 rw [hl]
 by_cases h:i < 0
 ·rw [if_pos h,if_pos h]
 ·rw [if_neg h,if_neg h]
  by_cases h2:(s.size:Int)≤i
  ·rw [if_pos h2,if_pos h2]
  ·rw [if_neg h2,if_neg h2]
   unfold nums
   simp only [List.getD_eq_getElem?_getD,List.getElem?_map]
   have:i.toNat < s.data.toList.length:=by omega
   rw [List.getElem?_eq_getElem this]
   rfl
theorem nAt_atI (c:List Int) (p:Nat):Cd.nAt c p=Cd.atI c ((p:Int)+1):=by
 unfold Cd.nAt Cd.atI
 rw [if_neg (show ¬ (p:Int)+1 < 0 by omega)]
 by_cases h:p+1 < c.length
 ·rw [if_pos h,if_neg (by omega)]
  congr 1
 ·rw [if_neg h,if_pos (by omega)]
theorem unread_all {c:List Int} (h:Cd.unread c < 0):∀ p∈Cd.places c,c.getD p 0≤25∧p+Cd.wd (c.getD p 0)≤c.length:=by
 intro p hp
 have:=first_all h p hp
 unfold Cd.noRead at this
 simp at this
 simpa using this
theorem ins_n {c:List Int}{p:Nat} (h:p+Cd.wd (c.getD p 0)≤c.length) (h2:Cd.wd (c.getD p 0)=2):(Cd.insAt c p).n=Cd.atI c ((p:Int)+1)∧Cd.atI c ((p:Int)+1)=c.getD (p+1) 0:=by
 have:Cd.atI c ((p:Int)+1)=c.getD (p+1) 0:=by
  rw [← nAt_atI]; unfold Cd.nAt; rw [if_pos (by omega)]
 refine ⟨?_,this⟩
 rw [this]
 unfold Cd.insAt
 simp only
 rw [if_pos h2]

theorem moved_n {T:List Int}{F:List Rf.Fld}{ms:List Rd.Mth}{want:Int→List (Int × Int)}{arg:Int→Int}{res:Int × Int}{p op:Int}{x:Ck.Fr} (h:Cd.wd op=1) (n n':Int) :
  Ck.moved T F ms want arg res p op n x=Ck.moved T F ms want arg res p op n' x:=by
 have h':¬ (op=0∨op=2∨op=3∨(11≤op∧op≤21)):=by
  intro g
  unfold Cd.wd at h
  rw [if_pos g] at h
  omega
 have e1:Ck.takes F ms res op n=Ck.takes F ms res op n':=by
  unfold Ck.takes
  simp only [show op ≠ 17 by omega,show op ≠ 18 by omega,show op ≠ 20 by omega,show op ≠ 21 by omega,if_false]
 have e2:Ck.leaves F ms op n=Ck.leaves F ms op n':=by
  unfold Ck.leaves
  simp only [show op ≠ 17 by omega,show op ≠ 19 by omega,show op ≠ 20 by omega,show op ≠ 21 by omega,if_false,false_or]
 unfold Ck.moved
 rw [e1,e2]
 simp only [show op ≠ 2 by omega,show op ≠ 3 by omega,show op ≠ 16 by omega,if_false]
theorem look_n {T:List Int}{mp:Int→Option Ck.Fr}{H:Int}{R:Option Ck.Fr}{op nxt len:Int} (h:Cd.wd op=1) (n n':Int):Ck.look T mp H R op n nxt len=Ck.look T mp H R op n' nxt len:=by
 have h':¬ (op=0∨op=2∨op=3∨(11≤op∧op≤21)):=by
  intro g
  unfold Cd.wd at h
  rw [if_pos g] at h
  omega
 have e:Ck.jumps op=false:=by unfold Ck.jumps; simp; omega
 unfold Ck.look
 simp only [e,Bool.false_eq_true,false_and,if_false]

theorem has_iff {T:List Int}{n:Int}:Tr.hasB T n=true↔0≤n∧n < (T.length:Int):=by unfold Tr.hasB; simp
theorem plain_arg {T:List Int}{t:Int × Int} (h:Tr.plainB T t.1 t.2=true):Tr.Arg T t.1 t.2∧t.1 ≠ 4:=by
 unfold Tr.plainB at h
 by_cases h1:t.1=1
 ·rw [if_pos h1] at h
  exact ⟨.inr (.inl ⟨h1,by simpa using h⟩),by omega⟩
 ·rw [if_neg h1] at h
  by_cases h3:t.1=3
  ·rw [if_pos h3] at h
   exact ⟨.inr (.inr (.inr (.inl ⟨h3,has_iff.1 h⟩))),by omega⟩
  ·rw [if_neg h3] at h; simp at h
theorem plain_ok {T:List Int}{isN:Int→Prop}{t:Int × Int} (h:Tr.plainB T t.1 t.2=true):Ck.tyOk T isN t:=⟨(plain_arg h).1,fun g=>absurd g (plain_arg h).2⟩
theorem allPlain_mem {T:List Int}{l:List (Int × Int)} (h:Tr.allPlainB T l=true):∀ t∈l,Tr.plainB T t.1 t.2=true:=fun t ht=>by
 unfold Tr.allPlainB at h
 exact List.all_eq_true.1 h t ht
theorem ref_arg {T:List Int}{n:Int} (h:0≤n∧n < (T.length:Int)):Tr.Arg T 3 n:=.inr (.inr (.inr (.inl ⟨rfl,h⟩)))
theorem gives_mem {T:List Int}{r:Int × Int} (h:Tr.plainB T r.1 r.2=true∨r=(0,0)):∀ t∈Ck.gives r,Tr.plainB T t.1 t.2=true:=by
 intro t ht
 unfold Ck.gives at ht
 split at ht
 ·simp at ht
 ·rename_i h0
  obtain rfl:=List.mem_singleton.1 ht
  rcases h with h | h
  ·exact h
  ·rw [h] at h0; exact absurd rfl h0

/-- the fields of all classes -/
theorem ownTo_mem {c base:Int}{own:List (Int × Int)}:∀ (k:Nat),k≤own.length→∀ f∈Rf.ownTo c base own k,f.owner=c∧f.t∈own
 | 0,_=>by simp [Rf.ownTo]
 | k+1,h=>by
  intro f hf
  rw [Rf.ownTo] at hf
  rcases List.mem_append.1 hf with hf | hf
  ·exact ownTo_mem k (by omega) f hf
  ·obtain rfl:=List.mem_singleton.1 hf
   exact ⟨rfl,getD_mem (by omega)⟩
theorem given_len:Rf.given.length=7:=rfl
theorem given_at (cs:List Rd.Cls) (j:Nat):(Rf.given ++ cs).getD (7+j) ⟨0,[]⟩=cs.getD j ⟨0,[]⟩:=by
 rw [List.getD_eq_getElem?_getD,List.getElem?_append_right (by rw [given_len]; omega),given_len,← List.getD_eq_getElem?_getD]
 congr 1; omega
theorem given_fields (cs:List Rd.Cls) (i:Nat) (h:i < 7):((Rf.given ++ cs).getD i ⟨0,[]⟩).fields=[]:=by
 rw [List.getD_eq_getElem?_getD,List.getElem?_append_left (by rw [given_len]; omega)]
 have:i=0∨i=1∨i=2∨i=3∨i=4∨i=5∨i=6:=by omega
 rcases this with rfl | rfl | rfl | rfl | rfl | rfl | rfl <;> rfl
theorem cls_plain {T:List Int}{cs:List Rd.Cls} (h:∀ c∈cs,Tr.allPlainB T c.fields=true) (d:Nat):∀ t∈((Rf.given ++ cs).getD d ⟨0,[]⟩).fields,Tr.plainB T t.1 t.2=true:=by
 by_cases h7:d < 7
 ·rw [given_fields cs d h7]; simp
 ·obtain ⟨j,rfl⟩:∃ j,d=7+j:=⟨d - 7,by omega⟩
  rw [given_at]
  by_cases hj:j < cs.length
  ·exact allPlain_mem (h _ (getD_mem hj))
  ·rw [List.getD_eq_getElem?_getD,List.getElem?_eq_none (by omega)]; simp
theorem fields_mem {T:List Int}{cs:List Rd.Cls} (h:∀ c∈cs,Tr.allPlainB T c.fields=true):∀ (j:Nat),∀ f∈Rf.fieldsTo T (Rf.given ++ cs) j,(7≤f.owner∧f.owner < 7+(j:Int))∧Tr.plainB T f.t.1 f.t.2=true
 | 0=>by simp [Rf.fieldsTo]
 | j+1=>by
  intro f hf
  rw [Rf.fieldsTo] at hf
  rcases List.mem_append.1 hf with hf | hf
  ·obtain ⟨a,b⟩:=fields_mem h j f hf
   exact ⟨by omega,b⟩
  ·unfold Rf.ownOf at hf
   obtain ⟨a,b⟩:=ownTo_mem _ (Nat.le_refl _) f hf
   exact ⟨by omega,cls_plain h _ _ b⟩
theorem all_plain {T:List Int}{cs:List Rd.Cls} (h:∀ c∈cs,Tr.allPlainB T c.fields=true) (c:Int):∀ (d:Nat),∀ t∈Rf.allTo T (Rf.given ++ cs) c d,Tr.plainB T t.1 t.2=true
 | 0=>by simp [Rf.allTo]
 | d+1=>by
  intro t ht
  rw [Rf.allTo] at ht
  rcases List.mem_append.1 ht with ht | ht
  ·exact all_plain h c d t ht
  ·split at ht
   ·exact cls_plain h d t ht
   ·simp at ht
end Go.Proofs.YteffpdofcgbokaaGreat

/-
  Of a file without an error of form: what the program finds in a method is what the document finds.
-/
namespace Go.Proofs.YteffpdofcgbokaaGreat

/-- the place of a New -/
def Ck.isN (c:List Int) (q:Int):Prop:=Cd.begB c q=true∧c.getD q.toNat 0=15
def Ck.P (T:List Int) (m:Rd.Mth) (x:Ck.Fr):Prop:=Ck.Inv T m.locals.toNat m.stack (Ck.isN m.code) x
def Ck.flds (cs:List Rd.Cls):List Rf.Fld:=Rf.fieldsTo (Tr.tree cs) (Rf.given ++ cs) cs.length
def Ck.mMap (m:Rd.Mth) (q:Int):Option Ck.Fr:=Ck.mapAt q m.maps
def Ck.mStart (m:Rd.Mth):Ck.Fr:=Ck.start m.cl m.params m.locals.toNat
/-- the document's rule, look and checked of a method -/
def Ck.mRule (cs:List Rd.Cls) (ms:List Rd.Mth) (m:Rd.Mth) (p:Nat) (x:Ck.Fr):Option Ck.Fr :=
 Ck.rule m.stack (Ck.moved (Tr.tree cs) (Ck.flds cs) ms (fun c=>Rf.all (Tr.tree cs) (Rf.given ++ cs) c.toNat) (fun q=>Cd.atI m.code (q+1)) m.result (p:Int) (m.code.getD p 0) (Cd.atI m.code ((p:Int)+1)) x)
def Ck.mLook (cs:List Rd.Cls) (ms:List Rd.Mth) (m:Rd.Mth) (p:Nat) (x:Ck.Fr):Int :=
 Ck.look (Tr.tree cs) (Ck.mMap m) (Ck.handlers (Tr.tree cs) (Ck.mMap m) (p:Int) x.locals m.handlers) (Ck.mRule cs ms m p x) (m.code.getD p 0) (Cd.atI m.code ((p:Int)+1)) ((p+Cd.wd (m.code.getD p 0):Nat):Int) (m.code.length:Int)
def Ck.mAhead (cs:List Rd.Cls) (ms:List Rd.Mth) (m:Rd.Mth) (q:Nat):Option Ck.Fr :=
 Ck.ahead (fun p=>Ck.mMap m (p:Int)) (Ck.mRule cs ms m) (fun p=>Ck.goes (m.code.getD p 0)) q (Cd.places m.code) (some (Ck.mStart m))
def Ck.mChecked (cs:List Rd.Cls) (ms:List Rd.Mth) (m:Rd.Mth):Int × Int :=
 Ck.checked (Tr.tree cs) (Ck.mMap m 0) (Ck.mStart m) (Ck.mAhead cs ms m) (Ck.mLook cs ms m) (Cd.places m.code)
/-- the program's -/
def Pk.mFs (cs:List Rd.Cls):List (List (Int × Int)):=(Rf.given ++ cs).map Rd.Cls.fields
def Pk.mBehind (cs:List Rd.Cls) (ms:List Rd.Mth) (m:Rd.Mth) (i:Cd.Ins) (x:Ck.Fr):Option Ck.Fr :=
 Pk.behind (Tr.tree cs) m.stack (Pk.takes (Pk.mFs cs) ms m.result i.op i.n) (Pk.leaves (Pk.mFs cs) ms i.op i.n) (Pk.fieldsOf (Tr.tree cs) (Pk.mFs cs) i.n) (Pk.isNew (Cd.readL m.code) i.n) i.place i.op i.n x
def Pk.mLook (cs:List Rd.Cls) (ms:List Rd.Mth) (m:Rd.Mth) (i:Cd.Ins) (x:Ck.Fr):Int :=
 Pk.look (Tr.tree cs) (Ck.mMap m) (Pk.handlers (Tr.tree cs) (Ck.mMap m) i.place x.locals m.handlers) (Pk.mBehind cs ms m i x) i.op i.n ((i.place.toNat+Cd.wd i.op:Nat):Int) (m.code.length:Int)
def Pk.mFind (cs:List Rd.Cls) (ms:List Rd.Mth) (m:Rd.Mth):Int × Int :=
 Pk.find (Tr.tree cs) (Ck.mMap m) (Pk.mLook cs ms m) (Pk.mBehind cs ms m) (Cd.readL m.code) (Ck.mStart m)

theorem P_arg {T:List Int}{m:Rd.Mth}{x:Ck.Fr} (h:Ck.P T m x):Ck.argF T x:=⟨fun t ht=>(h.tl t ht).1,fun t ht=>(h.ts t ht).1⟩
theorem mapAt_mem {l:List Rd.Mp}{q:Int}{z:Ck.Fr} (h:Ck.mapAt q l=some z):∃ y∈l,z=⟨y.locals,y.stack⟩:=by
 induction l with
 | nil=>simp [Ck.mapAt] at h
 | cons y r ih =>
  rw [Ck.mapAt] at h
  split at h
  ·exact ⟨y,by simp,(Option.some.inj h).symm⟩
  ·obtain ⟨y',hy,e⟩:=ih h
   exact ⟨y',by simp [hy],e⟩
theorem framed_ok {T c:List Int} (hc:c.length≤120) {t:Int × Int} (h:Cd.framed T c t.1 t.2=true):Ck.tyOk T (Ck.isN c) t:=by
 unfold Cd.framed at h
 by_cases h0:t.1=0∨t.1=1∨t.1=2
 ·rw [if_pos h0] at h
  have:t.2=0:=by simpa using h
  refine ⟨?_,fun g=>by omega⟩
  rcases h0 with h0 | h0 | h0
  ·exact .inl ⟨h0,this⟩
  ·exact .inr (.inl ⟨h0,this⟩)
  ·exact .inr (.inr (.inl ⟨h0,this⟩))
 rw [if_neg h0] at h
 by_cases h3:t.1=3
 ·rw [if_pos h3] at h
  exact ⟨by rw [h3]; exact ref_arg (has_iff.1 h),fun g=>by omega⟩
 rw [if_neg h3] at h
 by_cases h4:t.1=4
 ·rw [if_pos h4] at h
  simp only [Bool.and_eq_true,beq_iff_eq] at h
  have:=begB_lt h.1
  exact ⟨.inr (.inr (.inr (.inr ⟨h4,by omega,by omega⟩))),fun _=>h⟩
 ·rw [if_neg h4] at h; simp at h
theorem frAll_ok {T c:List Int} (hc:c.length≤120) {l:List (Int × Int)} (h:Cd.frAll T c l=true):∀ t∈l,Ck.tyOk T (Ck.isN c) t:=fun t ht=>framed_ok hc (List.all_eq_true.1 h t ht)

theorem map_P {T:List Int}{nf:Int}{ms:List Rd.Mth}{m:Rd.Mth} (g:Fm.Good T nf ms m) {q:Int}{z:Ck.Fr} (h:Ck.mMap m q=some z):Ck.P T m z:=by
 obtain ⟨y,hy,rfl⟩:=mapAt_mem h
 obtain ⟨a,b,_⟩:=g.map y hy
 obtain ⟨c,d⟩:=g.rd.ml y hy
 exact ⟨c,d,frAll_ok g.bd.code a,frAll_ok g.bd.code b⟩
theorem start_P {T:List Int}{nf:Int}{ms:List Rd.Mth}{m:Rd.Mth} (g:Fm.Good T nf ms m):Ck.P T m (Ck.mStart m):=by
 have h1:=g.own
 have h2:=g.rd.lo
 have h3:=g.rd.st
 refine ⟨?_,by simpa [Ck.mStart,Ck.start] using h3.1,?_,by simp [Ck.mStart,Ck.start]⟩
 ·simp only [Ck.mStart,Ck.start,List.length_append,List.length_replicate]; omega
 ·intro t ht
  simp only [Ck.mStart,Ck.start] at ht
  rcases List.mem_append.1 ht with ht | ht
  ·unfold Ck.own at ht
   rcases List.mem_append.1 ht with ht | ht
   ·split at ht
    ·simp at ht
    ·rename_i h255
     obtain rfl:=List.mem_singleton.1 ht
     exact ⟨ref_arg (has_iff.1 (g.cl.resolve_left h255)),fun h=>by simp at h⟩
   ·exact plain_ok (allPlain_mem g.ps t ht)
  ·rw [(List.mem_replicate.1 ht).2]; exact tyOk_top _ _

/-- the number of the instruction at a place of a method that may be -/
structure Fm.Num (T:List Int) (nf:Int) (ms:List Rd.Mth) (m:Rd.Mth) (op n:Int):Prop where
 loc:op=2∨op=3→0≤n∧n < m.locals
 cls:op=15∨op=16∨op=19→0≤n∧n < (T.length:Int)
 fld:op=17∨op=18→0≤n∧n < nf
 mth:op=20∨op=21→0≤n∧n < (ms.length:Int)
 own:op=21→(ms.getD n.toNat ⟨0,0,[],(0,0),0,0,[],[],[]⟩).cl ≠ 255
theorem num_at {T:List Int}{nf:Int}{ms:List Rd.Mth}{m:Rd.Mth} (g:Fm.Good T nf ms m) {p:Nat} (hp:p∈Cd.places m.code):Fm.Num T nf ms m (m.code.getD p 0) (Cd.atI m.code ((p:Int)+1)):=by
 have ha:=g.arg p hp
 obtain ⟨h25,hw⟩:=unread_all g.unread p hp
 unfold Cd.argAt at ha
 rw [nAt_atI] at ha
 have hpos:Cd.wd (m.code.getD p 0)=2→0≤Cd.atI m.code ((p:Int)+1):=fun h2=>by
  rw [(ins_n hw h2).2]; exact getD_pos g.bd.code0 _
 generalize Cd.atI m.code ((p:Int)+1)=n at *
 generalize m.code.getD p 0=op at *
 have hwd:op=2∨op=3∨(11≤op∧op≤21)→0≤n:=fun h=>hpos (by unfold Cd.wd; rw [if_pos (by omega)])
 unfold Cd.argB at ha
 refine ⟨fun h=>?_,fun h=>?_,fun h=>?_,fun h=>?_,fun h=>?_⟩
 ·rw [if_pos h] at ha
  exact ⟨hwd (by omega),by simpa using ha⟩
 ·rw [if_neg (by omega),if_neg (by omega),if_pos h] at ha
  exact has_iff.1 ha
 ·rw [if_neg (by omega),if_neg (by omega),if_neg (by omega),if_pos h] at ha
  exact ⟨hwd (by omega),by simpa using ha⟩
 ·refine ⟨hwd (by omega),?_⟩
  rw [if_neg (by omega),if_neg (by omega),if_neg (by omega),if_neg (by omega)] at ha
  rcases h with h | h
  ·rw [if_pos h] at ha; simp at ha; exact_mod_cast ha.1
  ·rw [if_neg (by omega),if_pos h] at ha; simp at ha; exact_mod_cast ha.1
 ·have h0:=hwd (by omega)
  rw [if_neg (by omega),if_neg (by omega),if_neg (by omega),if_neg (by omega),if_neg (by omega),if_pos h] at ha
  simp only [Bool.and_eq_true,decide_eq_true_eq,bne_iff_ne,ne_eq,List.length_map] at ha
  have e:(List.map Rd.Mth.cl ms).getD n.toNat 0=(ms.getD n.toNat ⟨0,0,[],(0,0),0,0,[],[],[]⟩).cl:=by
   simp only [List.getD_eq_getElem?_getD,List.getElem?_map]
   have:n.toNat < ms.length:=by omega
   rw [List.getElem?_eq_getElem this]
   rfl
  rw [e] at ha
  exact ha.2

theorem flds_len (cs:List Rd.Cls):((Ck.flds cs).length:Int)=(Cd.fieldSum cs:Int):=by
 have:=Cd.fields_eq (Tr.tree cs) cs cs.length (Nat.le_refl _)
 rw [List.take_length] at this
 unfold Ck.flds
 rw [this]
theorem fld_ok {cs:List Rd.Cls}{ms:List Rd.Mth} (k:Fm.Ok cs ms) {n:Int} (h:0≤n∧n < (Cd.fieldSum cs:Int)):(0≤((Ck.flds cs).getD n.toNat ⟨0,0,(0,0)⟩).owner∧((Ck.flds cs).getD n.toNat ⟨0,0,(0,0)⟩).owner < ((Tr.tree cs).length:Int)) ∧
  Tr.plainB (Tr.tree cs) ((Ck.flds cs).getD n.toNat ⟨0,0,(0,0)⟩).t.1 ((Ck.flds cs).getD n.toNat ⟨0,0,(0,0)⟩).t.2=true:=by
 have hl:=flds_len cs
 have:=fields_mem k.fl cs.length _ (show (Ck.flds cs).getD n.toNat ⟨0,0,(0,0)⟩∈Ck.flds cs from getD_mem (by omega))
 have hT:=tree_len cs
 exact ⟨by omega,this.2⟩
theorem takes_arg {cs:List Rd.Cls}{ms:List Rd.Mth} (k:Fm.Ok cs ms) {m:Rd.Mth}{op n:Int} (hm:m∈ms) (h:Fm.Num (Tr.tree cs) (Cd.fieldSum cs:Int) ms m op n):∀ t∈Ck.takes (Ck.flds cs) ms m.result op n,Tr.Arg (Tr.tree cs) t.1 t.2:=by
 have hT:=tree_len cs
 have g:=k.mt m hm
 unfold Ck.takes
 intro t ht
 split at ht
 ·simp at ht; rw [ht]; exact .inr (.inl ⟨rfl,rfl⟩)
 split at ht
 ·simp at ht; rw [ht]; exact .inr (.inl ⟨rfl,rfl⟩)
 split at ht
 ·simp at ht; rw [ht]; exact ref_arg ⟨by simp,by simp; omega⟩
 split at ht
 ·rename_i h17
  obtain rfl:=List.mem_singleton.1 ht
  exact ref_arg (fld_ok k (h.fld (.inl h17))).1
 split at ht
 ·rename_i h18
  have:=fld_ok k (h.fld (.inr h18))
  simp only [List.mem_cons,List.not_mem_nil,or_false] at ht
  rcases ht with rfl | rfl
  ·exact ref_arg this.1
  ·exact (plain_arg this.2).1
 split at ht
 ·rename_i h20
  have:=h.mth (.inl h20)
  exact (plain_arg (allPlain_mem (k.mt _ (getD_mem (show n.toNat < ms.length by omega))).ps t ht)).1
 split at ht
 ·rename_i h21
  have h1:=h.mth (.inr h21)
  have g':=k.mt _ (getD_mem (d:=⟨0,0,[],(0,0),0,0,[],[],[]⟩) (show n.toNat < ms.length by omega))
  rcases List.mem_cons.1 ht with rfl | ht
  ·exact ref_arg (has_iff.1 (g'.cl.resolve_left (h.own h21)))
  ·exact (plain_arg (allPlain_mem g'.ps t ht)).1
 split at ht
 ·exact (plain_arg (gives_mem g.res t ht)).1
 split at ht
 ·obtain rfl:=List.mem_singleton.1 ht
  exact ref_arg ⟨by simp,by simp; omega⟩
 ·simp at ht
theorem leaves_ok {cs:List Rd.Cls}{ms:List Rd.Mth} (k:Fm.Ok cs ms) {m:Rd.Mth}{op n:Int}{isN:Int→Prop} (h:Fm.Num (Tr.tree cs) (Cd.fieldSum cs:Int) ms m op n):∀ t∈Ck.leaves (Ck.flds cs) ms op n,Ck.tyOk (Tr.tree cs) isN t:=by
 unfold Ck.leaves
 intro t ht
 split at ht
 ·simp at ht; rw [ht]; exact ⟨.inr (.inl ⟨rfl,rfl⟩),fun h=>by simp at h⟩
 split at ht
 ·simp at ht; rw [ht]; exact ⟨.inr (.inr (.inl ⟨rfl,rfl⟩)),fun h=>by simp at h⟩
 split at ht
 ·rename_i h17
  obtain rfl:=List.mem_singleton.1 ht
  exact plain_ok (fld_ok k (h.fld (.inl h17))).2
 split at ht
 ·rename_i h19
  obtain rfl:=List.mem_singleton.1 ht
  exact ⟨ref_arg (h.cls (.inr (.inr h19))),fun h=>by simp at h⟩
 split at ht
 ·rename_i h20
  have:=h.mth h20
  exact plain_ok (gives_mem (k.mt _ (getD_mem (show n.toNat < ms.length by omega))).res t ht)
 ·simp at ht
end Go.Proofs.YteffpdofcgbokaaGreat
