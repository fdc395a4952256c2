/-
  The walk over the document's head: may the head of a method be?
-/
import Derived.Deep.RegionHeld3
import Derived.Test.YteffpdofcgbokaaGreatPk04

namespace Go.Proofs.YteffpdofcgbokaaGreat
open Go.RowKit

/-- does the method x, number i, forbid the head of method k? -/
def Hd.clash (T:List Int) (cl nm r1 r2:Int) (ps:List (Int × Int)) (k i:Nat) (x:Rd.Mth):Bool :=
 if x.name ≠ nm then false else if x.cl=255 then false else if x.cl=cl then decide (i < k)
 else Tr.rbel T cl x.cl && (!decide (x.params=ps) || !decide (x.result=(r1,r2)))
def Hd.okTo (T:List Int) (cl nm r1 r2:Int) (ps:List (Int × Int)) (k:Nat):Nat→List Rd.Mth→Bool
 | _,[]=>true
 | i,x :: r=>if Hd.clash T cl nm r1 r2 ps k i x=true then false else Hd.okTo T cl nm r1 r2 ps k (i+1) r
def Hd.bad1 (T:List Int) (cl nm r1 r2:Int):Bool :=
 (if cl=255 then !decide (nm=0) else (!Tr.hasB T cl || decide (cl < 7))) || (!Tr.plainB T r1 r2 && !decide ((r1,r2)=(0,0)))
def Hd.bad3 (cl lo:Int) (ps:List (Int × Int)):Bool:=decide (lo < (ps.length:Int)) || (!decide (cl=255) && decide (lo=(ps.length:Int)))
/-- may the head of method k be? -/
def Hd.headB (T:List Int) (ms:List Rd.Mth) (k:Nat) (cl nm r1 r2 lo:Int) (ps:List (Int × Int)):Bool :=
 if Hd.bad1 T cl nm r1 r2=true then false else if Tr.allPlainB T ps=false then false else if Hd.bad3 cl lo ps=true then false
 else if cl=255 then true else Hd.okTo T cl nm r1 r2 ps k 0 ms
theorem row12 {m:RMV}{w:World}{g k:Nat} (h:∀ j v,m.list[j]?=some v→w.cell? ⟨g,k * 12+j,none⟩=some v) :
  w.cell? ⟨g,k * 12,none⟩=some (.int .i64 m.cl)∧w.cell? ⟨g,k * 12+1,none⟩=some (.int .i64 m.nm)∧w.cell? ⟨g,k * 12+2,none⟩=some (.slice m.pa m.pl m.pc)∧w.cell? ⟨g,k * 12+3,none⟩=some (.int .i64 m.r1) ∧
  w.cell? ⟨g,k * 12+4,none⟩=some (.int .i64 m.r2)∧w.cell? ⟨g,k * 12+5,none⟩=some (.int .i64 m.lo)∧w.cell? ⟨g,k * 12+6,none⟩=some (.int .i64 m.st)∧w.cell? ⟨g,k * 12+7,none⟩=some (.string m.code) ∧
  w.cell? ⟨g,k * 12+8,none⟩=some (.slice m.ha m.hl m.hc)∧w.cell? ⟨g,k * 12+9,none⟩=some (.slice m.ma m.ml m.mc)∧w.cell? ⟨g,k * 12+10,none⟩=some (.int .i64 m.mAt)∧w.cell? ⟨g,k * 12+11,none⟩=some (.int .i64 m.fin) :=
 ⟨h 0 _ rfl,h 1 _ rfl,h 2 _ rfl,h 3 _ rfl,h 4 _ rfl,h 5 _ rfl,h 6 _ rfl,h 7 _ rfl,h 8 _ rfl,h 9 _ rfl,h 10 _ rfl,h 11 _ rfl⟩

set_option maxRecDepth 100000 in
set_option maxHeartbeats 40000000 in
theorem rhead_any (f:RFl) (k:Nat) (w:World) (hf:f.ok w) (hk:k < f.ms.length) (hpl:∀ p∈f.ms,p.1.m.params.length≤1000) :
  Calls Tryz.prog 12 #[f.val,.int .i64 (k:Int)] w fun e w' =>
   e=.returned (.bool (Hd.headB f.T (f.ms.map fun p=>p.1.m) k f.ms[k].1.m.cl f.ms[k].1.m.name f.ms[k].1.m.result.1 f.ms[k].1.m.result.2 f.ms[k].1.m.locals f.ms[k].1.m.params))∧Below w.heap.size w w':=by
 obtain ⟨m,g,hg,hglt,hrow,his⟩:=RFl.mth hf hk
 have hpk:=hpl _ (List.getElem_mem hk)
 have hm6:f.ms.length≤6:=hf.2.2.1
 replace hrow:=row12 hrow
 obtain ⟨ecl,enm,er1,er2,elo,-,-,-,epl,hps,-,-,-,-,-⟩:=his
 rw [← ecl,← enm,← er1,← er2,← elo]
 generalize f.ms[k].1.m.params=ps at *
 have hHa:=fun x w=>rhas_any f.T f.a1 f.a2 f.c1 f.ms.length f.c2 x w
 have hPl:=fun x y w=>rplain_any f.T f.a1 f.a2 f.c1 f.ms.length f.c2 x y w
 have hBl:=fun x y w (h:f.ok w)=>rbelow_any f.a1 f.a2 f.c1 f.ms.length f.c2 f.bb f.l x y w (by have:=h.1; omega) h.2.2.2.2.1
 have hTl:f.T.length=f.l.length:=supers_len _
 rw [hTl] at hHa hPl
 have hTs:supers f.l=f.T:=rfl
 rw [hTs] at hBl
 have HFO:∀ w',Below w.heap.size w w'→f.ok w':=fun w' hb=>hf.below hb
 have HMT:∀ w' i (hi:i < f.ms.length),Below w.heap.size w w'→∃ (m:RMV) (g:Nat),f.a2=some ⟨g,0,none⟩∧g < w'.heap.size∧(∀ j v,m.list[j]?=some v→w'.cell? ⟨g,i * 12+j,none⟩=some v)∧m.is f.ms[i].1 w' f.bb:=fun w' i hi hb=>RFl.mth (hf.below hb) hi
 have HPS:∀ w',Below w.heap.size w w'→TysAt w' f.bb (.slice m.pa m.pl m.pc) ps:=fun w' hb=>hps.kp (Kp.of_below (e:=none) hb) (by decide)
 generalize f.T=T at *
 clear hf hps ecl enm er1 er2 elo hTl hTs
 obtain ⟨fa1,fc1,fa2,fc2,bb,l,ms⟩:=f
 obtain ⟨cl,nm,pa,pl,pc,r1,r2,lo,st,code,ha,hl,hc,ma,ml,mc,mAt,fin⟩:=m
 simp only at epl hg hk
 subst epl hg
 simp only [RFl.val] at hHa hPl hBl hrow HPS hpk hpl HMT hm6 ⊢
 obtain ⟨y0,y1,y2,y3,y4,y5,y6,y7,y8,y9,y10,y11⟩:=hrow
 have hkb:(k:Int) < (ms.length:Int):=by omega
 have hhas:=fun w=>hHa cl w
 have hpla:=fun w=>hPl r1 r2 w
 generalize hres:Hd.headB T (ms.map fun p=>p.1.m) k cl nm r1 r2 lo ps=R
 unfold Hd.headB Hd.bad1 at hres
 generalize Tr.hasB T cl=K at *
 generalize Tr.plainB T r1 r2=P at *
 have HHA:=hide hhas
 have HPA:=hide hpla
 have HPl:=hide hPl
 have HBl:=hide hBl
 have HOK:=hide HFO
 have HMT':=hide HMT
 have HPS':=hide HPS
 have HPL:=hide hpl
 clear hhas hpla hHa hPl hBl HFO HMT HPS hpl
 have hB0:=below2 w (.cells #[.slice fa1 l.length fc1,.slice (some ⟨g,0,none⟩) ms.length fc2] 28) (.cells #[.int .i64 cl,.int .i64 nm,.slice pa ps.length pc,.int .i64 r1,.int .i64 r2,.int .i64 lo,.int .i64 st,.string code,.slice ha hl hc,.slice ma ml mc,.int .i64 mAt,.int .i64 fin] 52)
 have CF0:=alloc1_blk w (.cells #[.slice fa1 l.length fc1,.slice (some ⟨g,0,none⟩) ms.length fc2] 28) (.cells #[.int .i64 cl,.int .i64 nm,.slice pa ps.length pc,.int .i64 r1,.int .i64 r2,.int .i64 lo,.int .i64 st,.string code,.slice ha hl hc,.slice ma ml mc,.int .i64 mAt,.int .i64 fin] 52)
 have CM0:=alloc2_blk w (.cells #[.slice fa1 l.length fc1,.slice (some ⟨g,0,none⟩) ms.length fc2] 28) (.cells #[.int .i64 cl,.int .i64 nm,.slice pa ps.length pc,.int .i64 r1,.int .i64 r2,.int .i64 lo,.int .i64 st,.string code,.slice ha hl hc,.slice ma ml mc,.int .i64 mAt,.int .i64 fin] 52)
 by_cases hown:cl=255
 ·subst hown
  by_cases hnm:nm=0
  ·subst hnm
   cases P with
   | true =>
    generalize hap:Tr.allPlainB T ps=AP at hres
    have HAP:Hid (Tr.allPlainB T (ps.drop 0)=AP):=hap
    clear hap
    have HRES:Hid ((if AP=false then false else if Hd.bad3 255 lo ps=true then false else if (255:Int)=255 then true else Hd.okTo T 255 0 r1 r2 ps k 0 (ms.map fun p=>p.1.m))=R):=by unfold Hid; rw [← hres]; simp
    clear hres
    go_enter Tryz.func12,Tryz.ntmps12
    go_wp2_with fail
    refine (unhide HHA _).mono ?_
    rintro e w1 ⟨rfl,hb1⟩
    have hB1:=hB0.trans (hb1.mono (by simp; omega))
    have CF1:=stay hb1 CF0
    have CM1:=stay hb1 CM0
    clear hb1 hB0 CF0 CM0 y0 y1 y2 y3 y4 y5 y6 y7 y8 y9 y10 y11
    have f0:=blk_cell CF1 0
    have f1:=blk_cell CF1 1
    have m0:=blk_cell CM1 0
    have m1:=blk_cell CM1 1
    have m3:=blk_cell CM1 3
    have m4:=blk_cell CM1 4
    simp at f0 f1 m0 m1 m3 m4
    go_wp2_with fail
    refine (unhide HPA _).mono ?_
    rintro e w2 ⟨rfl,hb2⟩
    have hB2:=hB1.trans (hb2.mono hB1.size)
    have CF2:=stay hb2 CF1
    have CM2:=stay hb2 CM1
    clear hb2 hB1 CF1 CM1 f0 f1 m0 m1 m3 m4
    have m0:=blk_cell CM2 0
    have m1:=blk_cell CM2 1
    have m2:=blk_cell CM2 2
    have m3:=blk_cell CM2 3
    have m4:=blk_cell CM2 4
    have m5:=blk_cell CM2 5
    have m6:=blk_cell CM2 6
    have m7:=blk_cell CM2 7
    have m8:=blk_cell CM2 8
    have m9:=blk_cell CM2 9
    have m10:=blk_cell CM2 10
    have m11:=blk_cell CM2 11
    simp at m0 m1 m2 m3 m4 m5 m6 m7 m8 m9 m10 m11
    have f0:=blk_cell CF2 0
    have f1:=blk_cell CF2 1
    simp at f0 f1
    go_wp2
    go_loopw [9] (fun v wr=>∃ q:Nat,q≤ps.length∧v=.int .i64 (q:Int)∧Hid (Tr.allPlainB T (ps.drop q)=AP)∧Below w.heap.size w wr∧wr.heap[w.heap.size]?=some (.cells #[.slice fa1 l.length fc1,.slice (some ⟨g,0,none⟩) ms.length fc2] 28 (0,0))∧wr.heap[w.heap.size+1]?=some (.cells #[.int .i64 255,.int .i64 0,.slice pa ps.length pc,.int .i64 r1,.int .i64 r2,.int .i64 lo,.int .i64 st,.string code,.slice ha hl hc,.slice ma ml mc,.int .i64 mAt,.int .i64 fin] 52 (0,0)))
     (fun v _=>ps.length - (intOf v).toNat)
    case atStart=>exact ⟨0,by omega,rfl,HAP,hB2,CF2,CM2⟩
    case round =>
     clear HAP hB2 CF2 CM2 f0 f1 m0 m1 m2 m3 m4 m5 m6 m7 m8 m9 m10 m11
     obtain ⟨q,hq,rfl,HAP,hB,CF,CM⟩:=hrel
     have m0:=blk_cell CM 0
     have m1:=blk_cell CM 1
     have m2:=blk_cell CM 2
     have m3:=blk_cell CM 3
     have m4:=blk_cell CM 4
     have m5:=blk_cell CM 5
     have m6:=blk_cell CM 6
     have m7:=blk_cell CM 7
     have m8:=blk_cell CM 8
     have m9:=blk_cell CM 9
     have m10:=blk_cell CM 10
     have m11:=blk_cell CM 11
     simp at m0 m1 m2 m3 m4 m5 m6 m7 m8 m9 m10 m11
     have f0:=blk_cell CF 0
     have f1:=blk_cell CF 1
     simp at f0 f1
     have lF:w.heap.size < wr.heap.size:=lt_of_block CF
     have lM:w.heap.size+1 < wr.heap.size:=lt_of_block CM
     have hBs:=hB.size
     by_cases hqn:q < ps.length
     ·obtain ⟨g2,hg2,hg2lt,_,hcell2⟩:=own_some (unhide HPS' _ hB) (by omega)
      obtain ⟨e1,e2,e3⟩:=tcells_at ps q hqn
      have u0:=(hcell2 (q * 2) (by omega)).trans e1
      have u1:=(hcell2 (q * 2+1) (by omega)).trans e2
      have hdq:ps.drop q=ps[q] :: ps.drop (q+1):=List.drop_eq_getElem_cons hqn
      have hA:=unhide HAP
      rw [hdq,allPlain_cons] at hA
      generalize ps[q]=t at *
      obtain ⟨t1,t2⟩:=t
      simp only at u0 u1 hA
      have hfr:=fun w=>unhide HPl t1 t2 w
      generalize Tr.plainB T t1 t2=Z at *
      have HZ:=hide hfr
      have HAA:=hide hA
      have qb:(q:Int) < (ps.length:Int):=by omega
      have lG:g2 < wr.heap.size:=hg2lt
      clear hfr hA hdq e1 e2 e3 hcell2 HAP
      subst hg2
      go_wp2
      go_region_held3 (fun w'=>w'.cell? ⟨w.heap.size,0,none⟩=some (.slice fa1 l.length fc1)∧w'.cell? ⟨w.heap.size,1,none⟩=some (.slice (some ⟨g,0,none⟩) ms.length fc2)∧w'.cell? ⟨w.heap.size+1,2,none⟩=some (.slice (some ⟨g2,0,none⟩) ps.length pc)∧w'.cell? ⟨g2,q * 2,none⟩=some (.int .i64 t1)∧w'.cell? ⟨g2,q * 2+1,none⟩=some (.int .i64 t2))
       (first | exact ⟨f0,f1,m2,u0,u1⟩ | exact ⟨(hb7.cell lF).trans f0,(hb7.cell lF).trans f1,(hb7.cell lM).trans m2,(hb7.cell lG).trans u0,(hb7.cell lG).trans u1⟩)
       (first | (go_at_call 23; refine (unhide HZ _).mono ?_; rintro e w7 ⟨rfl,hb7⟩))
      have hB7:Below w.heap.size w w7:=hB.drew.trans (hb7.mono hBs)
      have CF7:=stay hb7 (show (wr.drew).heap[w.heap.size]?=_ from CF)
      have CM7:=stay hb7 (show (wr.drew).heap[w.heap.size+1]?=_ from CM)
      clear hb7 m0 m1 m2 m3 m4 m5 m6 m7 m8 m9 m10 m11 f0 f1 u0 u1 CF CM hB lF lM lG
      cases Z with
      | false =>
       have hAP:AP=false:=by rw [← unhide HAA]; simp
       have HR:Hid (R=false):=by unfold Hid; rw [← unhide HRES,hAP]; simp
       clear HAA hAP
       go_wp2
       go_ret
       exact ⟨by rw [unhide HR]; rfl,hB7⟩
      | true =>
       have HG:Hid (Tr.allPlainB T (ps.drop (q+1))=AP):=by unfold Hid; rw [← unhide HAA]; simp
       clear HAA
       go_wp2
       go_roundw
       case rel=>exact ⟨q+1,by omega,by go_num,HG,hB7,CF7,CM7⟩
       case measure=>simp [intOf]; omega
     ·have hAP:AP=true:=by rw [← unhide HAP,List.drop_eq_nil_of_le (by omega)]; rfl
      have qb:¬ (q:Int) < (ps.length:Int):=by omega
      have hrs:=unhide HRES
      rw [hAP,if_neg (by simp)] at hrs
      clear HAP hAP HRES
      by_cases hlo:lo < (ps.length:Int)
      ·have HR:Hid (R=false):=by unfold Hid; rw [← hrs]; simp [Hd.bad3,hlo]
       clear hrs
       go_wp2
       go_ret
       exact ⟨by rw [unhide HR]; rfl,hB⟩
      ·have HR:Hid (R=true):=by unfold Hid; rw [← hrs]; simp [Hd.bad3,hlo]
       clear hrs
       go_wp2
       go_loopw [11] (fun v wr'=>v=.int .i64 0∧wr'=wr) (fun _ _=>0)
       case atStart=>exact ⟨rfl,rfl⟩
       case round =>
        obtain ⟨rfl,rfl⟩:=hrel
        go_wp2
        go_ret
        exact ⟨by rw [unhide HR]; rfl,hB⟩
   | false =>
    by_cases hz1:r1=0
    ·subst hz1
     by_cases hz2:r2=0
     ·subst hz2
      generalize hap:Tr.allPlainB T ps=AP at hres
      have HAP:Hid (Tr.allPlainB T (ps.drop 0)=AP):=hap
      clear hap
      have HRES:Hid ((if AP=false then false else if Hd.bad3 255 lo ps=true then false else if (255:Int)=255 then true else Hd.okTo T 255 0 0 0 ps k 0 (ms.map fun p=>p.1.m))=R):=by unfold Hid; rw [← hres]; simp
      clear hres
      go_enter Tryz.func12,Tryz.ntmps12
      go_wp2_with fail
      refine (unhide HHA _).mono ?_
      rintro e w1 ⟨rfl,hb1⟩
      have hB1:=hB0.trans (hb1.mono (by simp; omega))
      have CF1:=stay hb1 CF0
      have CM1:=stay hb1 CM0
      clear hb1 hB0 CF0 CM0 y0 y1 y2 y3 y4 y5 y6 y7 y8 y9 y10 y11
      have f0:=blk_cell CF1 0
      have f1:=blk_cell CF1 1
      have m0:=blk_cell CM1 0
      have m1:=blk_cell CM1 1
      have m3:=blk_cell CM1 3
      have m4:=blk_cell CM1 4
      simp at f0 f1 m0 m1 m3 m4
      go_wp2_with fail
      refine (unhide HPA _).mono ?_
      rintro e w2 ⟨rfl,hb2⟩
      have hB2:=hB1.trans (hb2.mono hB1.size)
      have CF2:=stay hb2 CF1
      have CM2:=stay hb2 CM1
      clear hb2 hB1 CF1 CM1 f0 f1 m0 m1 m3 m4
      have m0:=blk_cell CM2 0
      have m1:=blk_cell CM2 1
      have m2:=blk_cell CM2 2
      have m3:=blk_cell CM2 3
      have m4:=blk_cell CM2 4
      have m5:=blk_cell CM2 5
      have m6:=blk_cell CM2 6
      have m7:=blk_cell CM2 7
      have m8:=blk_cell CM2 8
      have m9:=blk_cell CM2 9
      have m10:=blk_cell CM2 10
      have m11:=blk_cell CM2 11
      simp at m0 m1 m2 m3 m4 m5 m6 m7 m8 m9 m10 m11
      have f0:=blk_cell CF2 0
      have f1:=blk_cell CF2 1
      simp at f0 f1
      go_wp2
      go_loopw [9] (fun v wr=>∃ q:Nat,q≤ps.length∧v=.int .i64 (q:Int)∧Hid (Tr.allPlainB T (ps.drop q)=AP)∧Below w.heap.size w wr∧wr.heap[w.heap.size]?=some (.cells #[.slice fa1 l.length fc1,.slice (some ⟨g,0,none⟩) ms.length fc2] 28 (0,0))∧wr.heap[w.heap.size+1]?=some (.cells #[.int .i64 255,.int .i64 0,.slice pa ps.length pc,.int .i64 0,.int .i64 0,.int .i64 lo,.int .i64 st,.string code,.slice ha hl hc,.slice ma ml mc,.int .i64 mAt,.int .i64 fin] 52 (0,0)))
       (fun v _=>ps.length - (intOf v).toNat)
      case atStart=>exact ⟨0,by omega,rfl,HAP,hB2,CF2,CM2⟩
      case round =>
       clear HAP hB2 CF2 CM2 f0 f1 m0 m1 m2 m3 m4 m5 m6 m7 m8 m9 m10 m11
       obtain ⟨q,hq,rfl,HAP,hB,CF,CM⟩:=hrel
       have m0:=blk_cell CM 0
       have m1:=blk_cell CM 1
       have m2:=blk_cell CM 2
       have m3:=blk_cell CM 3
       have m4:=blk_cell CM 4
       have m5:=blk_cell CM 5
       have m6:=blk_cell CM 6
       have m7:=blk_cell CM 7
       have m8:=blk_cell CM 8
       have m9:=blk_cell CM 9
       have m10:=blk_cell CM 10
       have m11:=blk_cell CM 11
       simp at m0 m1 m2 m3 m4 m5 m6 m7 m8 m9 m10 m11
       have f0:=blk_cell CF 0
       have f1:=blk_cell CF 1
       simp at f0 f1
       have lF:w.heap.size < wr.heap.size:=lt_of_block CF
       have lM:w.heap.size+1 < wr.heap.size:=lt_of_block CM
       have hBs:=hB.size
       by_cases hqn:q < ps.length
       ·obtain ⟨g2,hg2,hg2lt,_,hcell2⟩:=own_some (unhide HPS' _ hB) (by omega)
        obtain ⟨e1,e2,e3⟩:=tcells_at ps q hqn
        have u0:=(hcell2 (q * 2) (by omega)).trans e1
        have u1:=(hcell2 (q * 2+1) (by omega)).trans e2
        have hdq:ps.drop q=ps[q] :: ps.drop (q+1):=List.drop_eq_getElem_cons hqn
        have hA:=unhide HAP
        rw [hdq,allPlain_cons] at hA
        generalize ps[q]=t at *
        obtain ⟨t1,t2⟩:=t
        simp only at u0 u1 hA
        have hfr:=fun w=>unhide HPl t1 t2 w
        generalize Tr.plainB T t1 t2=Z at *
        have HZ:=hide hfr
        have HAA:=hide hA
        have qb:(q:Int) < (ps.length:Int):=by omega
        have lG:g2 < wr.heap.size:=hg2lt
        clear hfr hA hdq e1 e2 e3 hcell2 HAP
        subst hg2
        go_wp2
        go_region_held3 (fun w'=>w'.cell? ⟨w.heap.size,0,none⟩=some (.slice fa1 l.length fc1)∧w'.cell? ⟨w.heap.size,1,none⟩=some (.slice (some ⟨g,0,none⟩) ms.length fc2)∧w'.cell? ⟨w.heap.size+1,2,none⟩=some (.slice (some ⟨g2,0,none⟩) ps.length pc)∧w'.cell? ⟨g2,q * 2,none⟩=some (.int .i64 t1)∧w'.cell? ⟨g2,q * 2+1,none⟩=some (.int .i64 t2))
         (first | exact ⟨f0,f1,m2,u0,u1⟩ | exact ⟨(hb7.cell lF).trans f0,(hb7.cell lF).trans f1,(hb7.cell lM).trans m2,(hb7.cell lG).trans u0,(hb7.cell lG).trans u1⟩)
         (first | (go_at_call 23; refine (unhide HZ _).mono ?_; rintro e w7 ⟨rfl,hb7⟩))
        have hB7:Below w.heap.size w w7:=hB.drew.trans (hb7.mono hBs)
        have CF7:=stay hb7 (show (wr.drew).heap[w.heap.size]?=_ from CF)
        have CM7:=stay hb7 (show (wr.drew).heap[w.heap.size+1]?=_ from CM)
        clear hb7 m0 m1 m2 m3 m4 m5 m6 m7 m8 m9 m10 m11 f0 f1 u0 u1 CF CM hB lF lM lG
        cases Z with
        | false =>
         have hAP:AP=false:=by rw [← unhide HAA]; simp
         have HR:Hid (R=false):=by unfold Hid; rw [← unhide HRES,hAP]; simp
         clear HAA hAP
         go_wp2
         go_ret
         exact ⟨by rw [unhide HR]; rfl,hB7⟩
        | true =>
         have HG:Hid (Tr.allPlainB T (ps.drop (q+1))=AP):=by unfold Hid; rw [← unhide HAA]; simp
         clear HAA
         go_wp2
         go_roundw
         case rel=>exact ⟨q+1,by omega,by go_num,HG,hB7,CF7,CM7⟩
         case measure=>simp [intOf]; omega
       ·have hAP:AP=true:=by rw [← unhide HAP,List.drop_eq_nil_of_le (by omega)]; rfl
        have qb:¬ (q:Int) < (ps.length:Int):=by omega
        have hrs:=unhide HRES
        rw [hAP,if_neg (by simp)] at hrs
        clear HAP hAP HRES
        by_cases hlo:lo < (ps.length:Int)
        ·have HR:Hid (R=false):=by unfold Hid; rw [← hrs]; simp [Hd.bad3,hlo]
         clear hrs
         go_wp2
         go_ret
         exact ⟨by rw [unhide HR]; rfl,hB⟩
        ·have HR:Hid (R=true):=by unfold Hid; rw [← hrs]; simp [Hd.bad3,hlo]
         clear hrs
         go_wp2
         go_loopw [11] (fun v wr'=>v=.int .i64 0∧wr'=wr) (fun _ _=>0)
         case atStart=>exact ⟨rfl,rfl⟩
         case round =>
          obtain ⟨rfl,rfl⟩:=hrel
          go_wp2
          go_ret
          exact ⟨by rw [unhide HR]; rfl,hB⟩
     ·have HR:Hid (R=false):=by unfold Hid; rw [← hres]; simp [hz2]
      clear hres
      go_enter Tryz.func12,Tryz.ntmps12
      go_wp2_with fail
      refine (unhide HHA _).mono ?_
      rintro e w1 ⟨rfl,hb1⟩
      have hB1:=hB0.trans (hb1.mono (by simp; omega))
      have CF1:=stay hb1 CF0
      have CM1:=stay hb1 CM0
      clear hb1 hB0 CF0 CM0 y0 y1 y2 y3 y4 y5 y6 y7 y8 y9 y10 y11
      have f0:=blk_cell CF1 0
      have f1:=blk_cell CF1 1
      have m0:=blk_cell CM1 0
      have m1:=blk_cell CM1 1
      have m3:=blk_cell CM1 3
      have m4:=blk_cell CM1 4
      simp at f0 f1 m0 m1 m3 m4
      go_wp2_with fail
      refine (unhide HPA _).mono ?_
      rintro e w2 ⟨rfl,hb2⟩
      have hB2:=hB1.trans (hb2.mono hB1.size)
      have CF2:=stay hb2 CF1
      have CM2:=stay hb2 CM1
      clear hb2 hB1 CF1 CM1 f0 f1 m0 m1 m3 m4
      have m0:=blk_cell CM2 0
      have m1:=blk_cell CM2 1
      have m2:=blk_cell CM2 2
      have m3:=blk_cell CM2 3
      have m4:=blk_cell CM2 4
      have m5:=blk_cell CM2 5
      have m6:=blk_cell CM2 6
      have m7:=blk_cell CM2 7
      have m8:=blk_cell CM2 8
      have m9:=blk_cell CM2 9
      have m10:=blk_cell CM2 10
      have m11:=blk_cell CM2 11
      simp at m0 m1 m2 m3 m4 m5 m6 m7 m8 m9 m10 m11
      have f0:=blk_cell CF2 0
      have f1:=blk_cell CF2 1
      simp at f0 f1
      go_wp2
      go_ret
      exact ⟨by rw [unhide HR]; rfl,hB2⟩
    ·have HR:Hid (R=false):=by unfold Hid; rw [← hres]; simp [hz1]
     clear hres
     go_enter Tryz.func12,Tryz.ntmps12
     go_wp2_with fail
     refine (unhide HHA _).mono ?_
     rintro e w1 ⟨rfl,hb1⟩
     have hB1:=hB0.trans (hb1.mono (by simp; omega))
     have CF1:=stay hb1 CF0
     have CM1:=stay hb1 CM0
     clear hb1 hB0 CF0 CM0 y0 y1 y2 y3 y4 y5 y6 y7 y8 y9 y10 y11
     have f0:=blk_cell CF1 0
     have f1:=blk_cell CF1 1
     have m0:=blk_cell CM1 0
     have m1:=blk_cell CM1 1
     have m3:=blk_cell CM1 3
     have m4:=blk_cell CM1 4
     simp at f0 f1 m0 m1 m3 m4
     go_wp2_with fail
     refine (unhide HPA _).mono ?_
     rintro e w2 ⟨rfl,hb2⟩
     have hB2:=hB1.trans (hb2.mono hB1.size)
     have CF2:=stay hb2 CF1
     have CM2:=stay hb2 CM1
     clear hb2 hB1 CF1 CM1 f0 f1 m0 m1 m3 m4
     have m0:=blk_cell CM2 0
     have m1:=blk_cell CM2 1
     have m2:=blk_cell CM2 2
     have m3:=blk_cell CM2 3
     have m4:=blk_cell CM2 4
     have m5:=blk_cell CM2 5
     have m6:=blk_cell CM2 6
     have m7:=blk_cell CM2 7
     have m8:=blk_cell CM2 8
     have m9:=blk_cell CM2 9
     have m10:=blk_cell CM2 10
     have m11:=blk_cell CM2 11
     simp at m0 m1 m2 m3 m4 m5 m6 m7 m8 m9 m10 m11
     have f0:=blk_cell CF2 0
     have f1:=blk_cell CF2 1
     simp at f0 f1
     go_wp2
     go_ret
     exact ⟨by rw [unhide HR]; rfl,hB2⟩
  ·have HR:Hid (R=false):=by unfold Hid; rw [← hres]; simp [hnm]
   clear hres
   go_enter Tryz.func12,Tryz.ntmps12
   go_wp2_with fail
   refine (unhide HHA _).mono ?_
   rintro e w1 ⟨rfl,hb1⟩
   have hB1:=hB0.trans (hb1.mono (by simp; omega))
   have CF1:=stay hb1 CF0
   have CM1:=stay hb1 CM0
   clear hb1 hB0 CF0 CM0 y0 y1 y2 y3 y4 y5 y6 y7 y8 y9 y10 y11
   have f0:=blk_cell CF1 0
   have f1:=blk_cell CF1 1
   have m0:=blk_cell CM1 0
   have m1:=blk_cell CM1 1
   have m3:=blk_cell CM1 3
   have m4:=blk_cell CM1 4
   simp at f0 f1 m0 m1 m3 m4
   go_wp2_with fail
   refine (unhide HPA _).mono ?_
   rintro e w2 ⟨rfl,hb2⟩
   have hB2:=hB1.trans (hb2.mono hB1.size)
   have CF2:=stay hb2 CF1
   have CM2:=stay hb2 CM1
   clear hb2 hB1 CF1 CM1 f0 f1 m0 m1 m3 m4
   have m0:=blk_cell CM2 0
   have m1:=blk_cell CM2 1
   have m2:=blk_cell CM2 2
   have m3:=blk_cell CM2 3
   have m4:=blk_cell CM2 4
   have m5:=blk_cell CM2 5
   have m6:=blk_cell CM2 6
   have m7:=blk_cell CM2 7
   have m8:=blk_cell CM2 8
   have m9:=blk_cell CM2 9
   have m10:=blk_cell CM2 10
   have m11:=blk_cell CM2 11
   simp at m0 m1 m2 m3 m4 m5 m6 m7 m8 m9 m10 m11
   have f0:=blk_cell CF2 0
   have f1:=blk_cell CF2 1
   simp at f0 f1
   go_wp2
   go_ret
   exact ⟨by rw [unhide HR]; rfl,hB2⟩
 ·have hown':(cl != 255)=true:=by simp [hown]
  cases K with
  | false =>
   have HR:Hid (R=false):=by unfold Hid; rw [← hres]; simp [hown]
   clear hres
   go_enter Tryz.func12,Tryz.ntmps12
   go_wp2_with fail
   refine (unhide HHA _).mono ?_
   rintro e w1 ⟨rfl,hb1⟩
   have hB1:=hB0.trans (hb1.mono (by simp; omega))
   have CF1:=stay hb1 CF0
   have CM1:=stay hb1 CM0
   clear hb1 hB0 CF0 CM0 y0 y1 y2 y3 y4 y5 y6 y7 y8 y9 y10 y11
   have f0:=blk_cell CF1 0
   have f1:=blk_cell CF1 1
   have m0:=blk_cell CM1 0
   have m1:=blk_cell CM1 1
   have m3:=blk_cell CM1 3
   have m4:=blk_cell CM1 4
   simp at f0 f1 m0 m1 m3 m4
   go_wp2_with fail
   refine (unhide HPA _).mono ?_
   rintro e w2 ⟨rfl,hb2⟩
   have hB2:=hB1.trans (hb2.mono hB1.size)
   have CF2:=stay hb2 CF1
   have CM2:=stay hb2 CM1
   clear hb2 hB1 CF1 CM1 f0 f1 m0 m1 m3 m4
   have m0:=blk_cell CM2 0
   have m1:=blk_cell CM2 1
   have m2:=blk_cell CM2 2
   have m3:=blk_cell CM2 3
   have m4:=blk_cell CM2 4
   have m5:=blk_cell CM2 5
   have m6:=blk_cell CM2 6
   have m7:=blk_cell CM2 7
   have m8:=blk_cell CM2 8
   have m9:=blk_cell CM2 9
   have m10:=blk_cell CM2 10
   have m11:=blk_cell CM2 11
   simp at m0 m1 m2 m3 m4 m5 m6 m7 m8 m9 m10 m11
   have f0:=blk_cell CF2 0
   have f1:=blk_cell CF2 1
   simp at f0 f1
   go_wp2
   go_ret
   exact ⟨by rw [unhide HR]; rfl,hB2⟩
  | true =>
   by_cases h7:cl < 7
   ·have HR:Hid (R=false):=by unfold Hid; rw [← hres]; simp [hown,h7]
    clear hres
    go_enter Tryz.func12,Tryz.ntmps12
    go_wp2_with fail
    refine (unhide HHA _).mono ?_
    rintro e w1 ⟨rfl,hb1⟩
    have hB1:=hB0.trans (hb1.mono (by simp; omega))
    have CF1:=stay hb1 CF0
    have CM1:=stay hb1 CM0
    clear hb1 hB0 CF0 CM0 y0 y1 y2 y3 y4 y5 y6 y7 y8 y9 y10 y11
    have f0:=blk_cell CF1 0
    have f1:=blk_cell CF1 1
    have m0:=blk_cell CM1 0
    have m1:=blk_cell CM1 1
    have m3:=blk_cell CM1 3
    have m4:=blk_cell CM1 4
    simp at f0 f1 m0 m1 m3 m4
    go_wp2_with fail
    refine (unhide HPA _).mono ?_
    rintro e w2 ⟨rfl,hb2⟩
    have hB2:=hB1.trans (hb2.mono hB1.size)
    have CF2:=stay hb2 CF1
    have CM2:=stay hb2 CM1
    clear hb2 hB1 CF1 CM1 f0 f1 m0 m1 m3 m4
    have m0:=blk_cell CM2 0
    have m1:=blk_cell CM2 1
    have m2:=blk_cell CM2 2
    have m3:=blk_cell CM2 3
    have m4:=blk_cell CM2 4
    have m5:=blk_cell CM2 5
    have m6:=blk_cell CM2 6
    have m7:=blk_cell CM2 7
    have m8:=blk_cell CM2 8
    have m9:=blk_cell CM2 9
    have m10:=blk_cell CM2 10
    have m11:=blk_cell CM2 11
    simp at m0 m1 m2 m3 m4 m5 m6 m7 m8 m9 m10 m11
    have f0:=blk_cell CF2 0
    have f1:=blk_cell CF2 1
    simp at f0 f1
    go_wp2
    go_ret
    exact ⟨by rw [unhide HR]; rfl,hB2⟩
   ·cases P with
    | true =>
     generalize hap:Tr.allPlainB T ps=AP at hres
     have HAP:Hid (Tr.allPlainB T (ps.drop 0)=AP):=hap
     clear hap
     have HRES:Hid ((if AP=false then false else if Hd.bad3 cl lo ps=true then false else if cl=255 then true else Hd.okTo T cl nm r1 r2 ps k 0 (ms.map fun p=>p.1.m))=R):=by unfold Hid; rw [← hres]; simp [hown,h7]
     clear hres
     go_enter Tryz.func12,Tryz.ntmps12
     go_wp2_with fail
     refine (unhide HHA _).mono ?_
     rintro e w1 ⟨rfl,hb1⟩
     have hB1:=hB0.trans (hb1.mono (by simp; omega))
     have CF1:=stay hb1 CF0
     have CM1:=stay hb1 CM0
     clear hb1 hB0 CF0 CM0 y0 y1 y2 y3 y4 y5 y6 y7 y8 y9 y10 y11
     have f0:=blk_cell CF1 0
     have f1:=blk_cell CF1 1
     have m0:=blk_cell CM1 0
     have m1:=blk_cell CM1 1
     have m3:=blk_cell CM1 3
     have m4:=blk_cell CM1 4
     simp at f0 f1 m0 m1 m3 m4
     go_wp2_with fail
     refine (unhide HPA _).mono ?_
     rintro e w2 ⟨rfl,hb2⟩
     have hB2:=hB1.trans (hb2.mono hB1.size)
     have CF2:=stay hb2 CF1
     have CM2:=stay hb2 CM1
     clear hb2 hB1 CF1 CM1 f0 f1 m0 m1 m3 m4
     have m0:=blk_cell CM2 0
     have m1:=blk_cell CM2 1
     have m2:=blk_cell CM2 2
     have m3:=blk_cell CM2 3
     have m4:=blk_cell CM2 4
     have m5:=blk_cell CM2 5
     have m6:=blk_cell CM2 6
     have m7:=blk_cell CM2 7
     have m8:=blk_cell CM2 8
     have m9:=blk_cell CM2 9
     have m10:=blk_cell CM2 10
     have m11:=blk_cell CM2 11
     simp at m0 m1 m2 m3 m4 m5 m6 m7 m8 m9 m10 m11
     have f0:=blk_cell CF2 0
     have f1:=blk_cell CF2 1
     simp at f0 f1
     go_wp2
     go_loopw [9] (fun v wr=>∃ q:Nat,q≤ps.length∧v=.int .i64 (q:Int)∧Hid (Tr.allPlainB T (ps.drop q)=AP)∧Below w.heap.size w wr∧wr.heap[w.heap.size]?=some (.cells #[.slice fa1 l.length fc1,.slice (some ⟨g,0,none⟩) ms.length fc2] 28 (0,0))∧wr.heap[w.heap.size+1]?=some (.cells #[.int .i64 cl,.int .i64 nm,.slice pa ps.length pc,.int .i64 r1,.int .i64 r2,.int .i64 lo,.int .i64 st,.string code,.slice ha hl hc,.slice ma ml mc,.int .i64 mAt,.int .i64 fin] 52 (0,0)))
      (fun v _=>ps.length - (intOf v).toNat)
     case atStart=>exact ⟨0,by omega,rfl,HAP,hB2,CF2,CM2⟩
     case round =>
      clear HAP hB2 CF2 CM2 f0 f1 m0 m1 m2 m3 m4 m5 m6 m7 m8 m9 m10 m11
      obtain ⟨q,hq,rfl,HAP,hB,CF,CM⟩:=hrel
      have m0:=blk_cell CM 0
      have m1:=blk_cell CM 1
      have m2:=blk_cell CM 2
      have m3:=blk_cell CM 3
      have m4:=blk_cell CM 4
      have m5:=blk_cell CM 5
      have m6:=blk_cell CM 6
      have m7:=blk_cell CM 7
      have m8:=blk_cell CM 8
      have m9:=blk_cell CM 9
      have m10:=blk_cell CM 10
      have m11:=blk_cell CM 11
      simp at m0 m1 m2 m3 m4 m5 m6 m7 m8 m9 m10 m11
      have f0:=blk_cell CF 0
      have f1:=blk_cell CF 1
      simp at f0 f1
      have lF:w.heap.size < wr.heap.size:=lt_of_block CF
      have lM:w.heap.size+1 < wr.heap.size:=lt_of_block CM
      have hBs:=hB.size
      by_cases hqn:q < ps.length
      ·obtain ⟨g2,hg2,hg2lt,_,hcell2⟩:=own_some (unhide HPS' _ hB) (by omega)
       obtain ⟨e1,e2,e3⟩:=tcells_at ps q hqn
       have u0:=(hcell2 (q * 2) (by omega)).trans e1
       have u1:=(hcell2 (q * 2+1) (by omega)).trans e2
       have hdq:ps.drop q=ps[q] :: ps.drop (q+1):=List.drop_eq_getElem_cons hqn
       have hA:=unhide HAP
       rw [hdq,allPlain_cons] at hA
       generalize ps[q]=t at *
       obtain ⟨t1,t2⟩:=t
       simp only at u0 u1 hA
       have hfr:=fun w=>unhide HPl t1 t2 w
       generalize Tr.plainB T t1 t2=Z at *
       have HZ:=hide hfr
       have HAA:=hide hA
       have qb:(q:Int) < (ps.length:Int):=by omega
       have lG:g2 < wr.heap.size:=hg2lt
       clear hfr hA hdq e1 e2 e3 hcell2 HAP
       subst hg2
       go_wp2
       go_region_held3 (fun w'=>w'.cell? ⟨w.heap.size,0,none⟩=some (.slice fa1 l.length fc1)∧w'.cell? ⟨w.heap.size,1,none⟩=some (.slice (some ⟨g,0,none⟩) ms.length fc2)∧w'.cell? ⟨w.heap.size+1,2,none⟩=some (.slice (some ⟨g2,0,none⟩) ps.length pc)∧w'.cell? ⟨g2,q * 2,none⟩=some (.int .i64 t1)∧w'.cell? ⟨g2,q * 2+1,none⟩=some (.int .i64 t2))
        (first | exact ⟨f0,f1,m2,u0,u1⟩ | exact ⟨(hb7.cell lF).trans f0,(hb7.cell lF).trans f1,(hb7.cell lM).trans m2,(hb7.cell lG).trans u0,(hb7.cell lG).trans u1⟩)
        (first | (go_at_call 23; refine (unhide HZ _).mono ?_; rintro e w7 ⟨rfl,hb7⟩))
       have hB7:Below w.heap.size w w7:=hB.drew.trans (hb7.mono hBs)
       have CF7:=stay hb7 (show (wr.drew).heap[w.heap.size]?=_ from CF)
       have CM7:=stay hb7 (show (wr.drew).heap[w.heap.size+1]?=_ from CM)
       clear hb7 m0 m1 m2 m3 m4 m5 m6 m7 m8 m9 m10 m11 f0 f1 u0 u1 CF CM hB lF lM lG
       cases Z with
       | false =>
        have hAP:AP=false:=by rw [← unhide HAA]; simp
        have HR:Hid (R=false):=by unfold Hid; rw [← unhide HRES,hAP]; simp
        clear HAA hAP
        go_wp2
        go_ret
        exact ⟨by rw [unhide HR]; rfl,hB7⟩
       | true =>
        have HG:Hid (Tr.allPlainB T (ps.drop (q+1))=AP):=by unfold Hid; rw [← unhide HAA]; simp
        clear HAA
        go_wp2
        go_roundw
        case rel=>exact ⟨q+1,by omega,by go_num,HG,hB7,CF7,CM7⟩
        case measure=>simp [intOf]; omega
      ·have hAP:AP=true:=by rw [← unhide HAP,List.drop_eq_nil_of_le (by omega)]; rfl
       have qb:¬ (q:Int) < (ps.length:Int):=by omega
       have hrs:=unhide HRES
       rw [hAP,if_neg (by simp)] at hrs
       clear HAP hAP HRES
       by_cases hlo:lo < (ps.length:Int)
       ·have HR:Hid (R=false):=by unfold Hid; rw [← hrs]; simp [Hd.bad3,hlo]
        clear hrs
        go_wp2
        go_ret
        exact ⟨by rw [unhide HR]; rfl,hB⟩
       ·by_cases hlo2:lo=(ps.length:Int)
        ·have HR:Hid (R=false):=by unfold Hid; rw [← hrs]; simp [Hd.bad3,hlo2,hown]
         clear hrs
         go_wp2
         go_ret
         exact ⟨by rw [unhide HR]; rfl,hB⟩
        ·have HL:Hid (Hd.okTo T cl nm r1 r2 ps k 0 ((ms.map fun p=>p.1.m).drop 0)=R):=by unfold Hid; rw [← hrs]; simp [Hd.bad3,hlo,hlo2,hown]
         clear hrs
         go_wp2
         go_loopw [11] (fun v wr=>∃ i:Nat,i≤ms.length∧v=.int .i64 (i:Int)∧Hid (Hd.okTo T cl nm r1 r2 ps k i ((ms.map fun p=>p.1.m).drop i)=R)∧Below w.heap.size w wr∧wr.heap[w.heap.size]?=some (.cells #[.slice fa1 l.length fc1,.slice (some ⟨g,0,none⟩) ms.length fc2] 28 (0,0))∧wr.heap[w.heap.size+1]?=some (.cells #[.int .i64 cl,.int .i64 nm,.slice pa ps.length pc,.int .i64 r1,.int .i64 r2,.int .i64 lo,.int .i64 st,.string code,.slice ha hl hc,.slice ma ml mc,.int .i64 mAt,.int .i64 fin] 52 (0,0)))
          (fun v _=>ms.length - (intOf v).toNat)
         case atStart=>exact ⟨0,by omega,rfl,HL,hB,CF,CM⟩
         case round =>
          clear HL hB CF CM f0 f1 m0 m1 m2 m3 m4 m5 m6 m7 m8 m9 m10 m11 lF lM hBs
          obtain ⟨i,hi,rfl,HL,hB,CF,CM⟩:=hrel
          have m0:=blk_cell CM 0
          have m1:=blk_cell CM 1
          have m2:=blk_cell CM 2
          have m3:=blk_cell CM 3
          have m4:=blk_cell CM 4
          have m5:=blk_cell CM 5
          have m6:=blk_cell CM 6
          have m7:=blk_cell CM 7
          have m8:=blk_cell CM 8
          have m9:=blk_cell CM 9
          have m10:=blk_cell CM 10
          have m11:=blk_cell CM 11
          simp at m0 m1 m2 m3 m4 m5 m6 m7 m8 m9 m10 m11
          have f0:=blk_cell CF 0
          have f1:=blk_cell CF 1
          simp at f0 f1
          have lF:w.heap.size < wr.heap.size:=lt_of_block CF
          have lM:w.heap.size+1 < wr.heap.size:=lt_of_block CM
          have hBs:=hB.size
          by_cases hin:i < ms.length
          ·obtain ⟨mx,gx,hgx,hgxlt,hrx,hix⟩:=unhide HMT' wr i hin hB
           have hplx:=unhide HPL _ (List.getElem_mem hin)
           have hd:(ms.map fun p=>p.1.m).drop i=ms[i].1.m :: (ms.map fun p=>p.1.m).drop (i+1):=by
            rw [List.drop_eq_getElem_cons (by simpa using hin)]
            simp
           have hr:=unhide HL
           rw [hd,Hd.okTo,Hd.clash] at hr
           obtain ⟨ecl,enm,er1,er2,-,-,-,-,epl,hpx,-,-,-,-,-⟩:=hix
           have eres:ms[i].1.m.result=(mx.r1,mx.r2):=by rw [er1,er2]
           rw [← ecl,← enm,eres] at hr
           replace hrx:=row12 hrx
           generalize ms[i].1.m.params=xps at *
           obtain ⟨xcl,xnm,xpa,xpl,xpc,xr1,xr2,xlo,xst,xcode,xha,xhl,xhc,xma,xml,xmc,xmAt,xfin⟩:=mx
           simp only at epl hgx
           subst epl
           obtain rfl:g=gx:=by simpa using hgx
           simp only at hr hrx hpx
           obtain ⟨z0,z1,z2,z3,z4,z5,z6,z7,z8,z9,z10,z11⟩:=hrx
           have ib:(i:Int) < (ms.length:Int):=by omega
           have HPX:=hide hpx
           have hbl:=fun w h=>unhide HBl cl xcl w h
           generalize Tr.rbel T cl xcl=U at *
           have HU:=hide hbl
           have HRR:=hide hr
           have CX:=alloc_blk wr (.cells #[.int .i64 xcl,.int .i64 xnm,.slice xpa xps.length xpc,.int .i64 xr1,.int .i64 xr2,.int .i64 xlo,.int .i64 xst,.string xcode,.slice xha xhl xhc,.slice xma xml xmc,.int .i64 xmAt,.int .i64 xfin] 52)
           have hBx:=hB.alloc hBs (.cells #[.int .i64 xcl,.int .i64 xnm,.slice xpa xps.length xpc,.int .i64 xr1,.int .i64 xr2,.int .i64 xlo,.int .i64 xst,.string xcode,.slice xha xhl xhc,.slice xma xml xmc,.int .i64 xmAt,.int .i64 xfin] 52)
           have CFx:=stay1 CF (.cells #[.int .i64 xcl,.int .i64 xnm,.slice xpa xps.length xpc,.int .i64 xr1,.int .i64 xr2,.int .i64 xlo,.int .i64 xst,.string xcode,.slice xha xhl xhc,.slice xma xml xmc,.int .i64 xmAt,.int .i64 xfin] 52)
           have CMx:=stay1 CM (.cells #[.int .i64 xcl,.int .i64 xnm,.slice xpa xps.length xpc,.int .i64 xr1,.int .i64 xr2,.int .i64 xlo,.int .i64 xst,.string xcode,.slice xha xhl xhc,.slice xma xml xmc,.int .i64 xmAt,.int .i64 xfin] 52)
           clear hd hr hpx ecl enm er1 er2 eres HL hgx hbl
           by_cases hxn:xnm=nm
           ·have hxn':(xnm != nm)=false:=by simp [hxn]
            by_cases hx5:xcl=255
            ·have hx5':(xcl == 255)=true:=by simp [hx5]
             have HF:Hid (Hd.okTo T cl nm r1 r2 ps k (i+1) ((ms.map fun p=>p.1.m).drop (i+1))=R):=by unfold Hid; rw [← unhide HRR]; simp [hxn,hx5]
             clear hxn hx5
             clear HRR
             go_wp2
             go_roundw
             case rel=>exact ⟨i+1,by omega,by go_num,HF,hBx,CFx,CMx⟩
             case measure=>simp [intOf]; omega
            ·have hx5':(xcl == 255)=false:=by simp [hx5]
             by_cases hxc:xcl=cl
             ·have hxc':(xcl == cl)=true:=by simp [hxc]
              by_cases hik:i < k
              ·have hik':(i:Int) < (k:Int):=by omega
               have HF:Hid (R=false):=by unfold Hid; rw [← unhide HRR]; simp [hxn,hxc,hik,hown]
               clear hxn hx5 hxc
               clear HRR
               go_wp2
               go_ret
               exact ⟨by rw [unhide HF]; rfl,hBx⟩
              ·have hik':¬ (i:Int) < (k:Int):=by omega
               have HF:Hid (Hd.okTo T cl nm r1 r2 ps k (i+1) ((ms.map fun p=>p.1.m).drop (i+1))=R):=by unfold Hid; rw [← unhide HRR]; simp [hxn,hxc,hik,hown]
               clear hxn hx5 hxc
               clear HRR
               go_wp2
               go_roundw
               case rel=>exact ⟨i+1,by omega,by go_num,HF,hBx,CFx,CMx⟩
               case measure=>simp [intOf]; omega
             ·have hxc':(xcl == cl)=false:=by simp [hxc]
              have HXN:=hide hxn
              have HX5:=hide hx5
              have HXC:=hide hxc
              clear hxn hx5 hxc
              go_wp2_with fail
              refine (unhide HU _ (unhide HOK _ hBx)).mono ?_
              rintro e w3 ⟨rfl,hb3⟩
              have hB3:=hBx.trans (hb3.mono hBx.size)
              have CF3:=stay hb3 CFx
              have CM3:=stay hb3 CMx
              have CX3:=stay hb3 CX
              have hpx3:TysAt w3 bb (.slice xpa xps.length xpc) xps:=(unhide HPX).kp (Kp.of_below (e:=none) (((Below.refl _ _).alloc (Nat.le_refl _) _).trans (hb3.mono (by simp)))) (by decide)
              have hps3:=unhide HPS' _ hB3
              clear hb3 hBx CF CM CFx CMx CX hB f0 f1 m0 m1 m2 m3 m4 m5 m6 m7 m8 m9 m10 m11 z0 z1 z2 z3 z4 z5 z6 z7 z8 z9 z10 z11 lF lM hBs
              have m2:=blk_cell CM3 2
              have m3:=blk_cell CM3 3
              have m4:=blk_cell CM3 4
              have x2:=blk_cell CX3 2
              have x3:=blk_cell CX3 3
              have x4:=blk_cell CX3 4
              simp at m2 m3 m4 x2 x3 x4
              have hsm:=rsame_any xps ps xpa pa xpc pc bb bb w3 hpx3 hps3 hplx hpk
              generalize decide (xps=ps)=SM at *
              have HSM:=hide hsm
              clear hsm hpx3 hps3
              go_wp2_with fail
              refine (unhide HSM).mono ?_
              rintro e w4 ⟨rfl,hb4⟩
              have hB4:=hB3.trans (hb4.mono hB3.size)
              have CF4:=stay hb4 CF3
              have CM4:=stay hb4 CM3
              have CX4:=stay hb4 CX3
              clear hb4 hB3 CF3 CM3 CX3 m2 m3 m4 x2 x3 x4
              have m3:=blk_cell CM4 3
              have m4:=blk_cell CM4 4
              have x3:=blk_cell CX4 3
              have x4:=blk_cell CX4 4
              simp at m3 m4 x3 x4
              cases U with
              | false =>
               have HF:Hid (Hd.okTo T cl nm r1 r2 ps k (i+1) ((ms.map fun p=>p.1.m).drop (i+1))=R):=by unfold Hid; rw [← unhide HRR]; simp [unhide HXN,unhide HX5,unhide HXC]
               clear HRR
               go_wp2
               go_roundw
               case rel=>exact ⟨i+1,by omega,by go_num,HF,hB4,CF4,CM4⟩
               case measure=>simp [intOf]; omega
              | true =>
               cases SM with
               | false =>
                have HF:Hid (R=false):=by unfold Hid; rw [← unhide HRR]; simp [unhide HXN,unhide HX5,unhide HXC]
                clear HRR
                go_wp2
                go_ret
                exact ⟨by rw [unhide HF]; rfl,hB4⟩
               | true =>
                by_cases hr1:xr1=r1
                ·by_cases hr2:xr2=r2
                 ·have HF:Hid (Hd.okTo T cl nm r1 r2 ps k (i+1) ((ms.map fun p=>p.1.m).drop (i+1))=R):=by unfold Hid; rw [← unhide HRR]; simp [unhide HXN,unhide HX5,unhide HXC,hr1,hr2]
                  clear HRR
                  go_wp2
                  go_roundw
                  case rel=>exact ⟨i+1,by omega,by go_num,HF,hB4,CF4,CM4⟩
                  case measure=>simp [intOf]; omega
                 ·have HF:Hid (R=false):=by unfold Hid; rw [← unhide HRR]; simp [unhide HXN,unhide HX5,unhide HXC,hr2]
                  clear HRR
                  go_wp2
                  go_ret
                  exact ⟨by rw [unhide HF]; rfl,hB4⟩
                ·have HF:Hid (R=false):=by unfold Hid; rw [← unhide HRR]; simp [unhide HXN,unhide HX5,unhide HXC,hr1]
                 clear HRR
                 go_wp2
                 go_ret
                 exact ⟨by rw [unhide HF]; rfl,hB4⟩
           ·have hxn':(xnm != nm)=true:=by simp [hxn]
            have HF:Hid (Hd.okTo T cl nm r1 r2 ps k (i+1) ((ms.map fun p=>p.1.m).drop (i+1))=R):=by unfold Hid; rw [← unhide HRR]; simp [hxn]
            clear hxn
            clear HRR
            go_wp2
            go_roundw
            case rel=>exact ⟨i+1,by omega,by go_num,HF,hBx,CFx,CMx⟩
            case measure=>simp [intOf]; omega
          ·have HF:Hid (R=true):=by unfold Hid; rw [← unhide HL,List.drop_eq_nil_of_le (by simp; omega)]; rfl
           have ib:¬ (i:Int) < (ms.length:Int):=by omega
           clear HL
           go_wp2
           go_ret
           exact ⟨by rw [unhide HF]; rfl,hB⟩
    | false =>
     by_cases hz1:r1=0
     ·subst hz1
      by_cases hz2:r2=0
      ·subst hz2
       generalize hap:Tr.allPlainB T ps=AP at hres
       have HAP:Hid (Tr.allPlainB T (ps.drop 0)=AP):=hap
       clear hap
       have HRES:Hid ((if AP=false then false else if Hd.bad3 cl lo ps=true then false else if cl=255 then true else Hd.okTo T cl nm 0 0 ps k 0 (ms.map fun p=>p.1.m))=R):=by unfold Hid; rw [← hres]; simp [hown,h7]
       clear hres
       go_enter Tryz.func12,Tryz.ntmps12
       go_wp2_with fail
       refine (unhide HHA _).mono ?_
       rintro e w1 ⟨rfl,hb1⟩
       have hB1:=hB0.trans (hb1.mono (by simp; omega))
       have CF1:=stay hb1 CF0
       have CM1:=stay hb1 CM0
       clear hb1 hB0 CF0 CM0 y0 y1 y2 y3 y4 y5 y6 y7 y8 y9 y10 y11
       have f0:=blk_cell CF1 0
       have f1:=blk_cell CF1 1
       have m0:=blk_cell CM1 0
       have m1:=blk_cell CM1 1
       have m3:=blk_cell CM1 3
       have m4:=blk_cell CM1 4
       simp at f0 f1 m0 m1 m3 m4
       go_wp2_with fail
       refine (unhide HPA _).mono ?_
       rintro e w2 ⟨rfl,hb2⟩
       have hB2:=hB1.trans (hb2.mono hB1.size)
       have CF2:=stay hb2 CF1
       have CM2:=stay hb2 CM1
       clear hb2 hB1 CF1 CM1 f0 f1 m0 m1 m3 m4
       have m0:=blk_cell CM2 0
       have m1:=blk_cell CM2 1
       have m2:=blk_cell CM2 2
       have m3:=blk_cell CM2 3
       have m4:=blk_cell CM2 4
       have m5:=blk_cell CM2 5
       have m6:=blk_cell CM2 6
       have m7:=blk_cell CM2 7
       have m8:=blk_cell CM2 8
       have m9:=blk_cell CM2 9
       have m10:=blk_cell CM2 10
       have m11:=blk_cell CM2 11
       simp at m0 m1 m2 m3 m4 m5 m6 m7 m8 m9 m10 m11
       have f0:=blk_cell CF2 0
       have f1:=blk_cell CF2 1
       simp at f0 f1
       go_wp2
       go_loopw [9] (fun v wr=>∃ q:Nat,q≤ps.length∧v=.int .i64 (q:Int)∧Hid (Tr.allPlainB T (ps.drop q)=AP)∧Below w.heap.size w wr∧wr.heap[w.heap.size]?=some (.cells #[.slice fa1 l.length fc1,.slice (some ⟨g,0,none⟩) ms.length fc2] 28 (0,0))∧wr.heap[w.heap.size+1]?=some (.cells #[.int .i64 cl,.int .i64 nm,.slice pa ps.length pc,.int .i64 0,.int .i64 0,.int .i64 lo,.int .i64 st,.string code,.slice ha hl hc,.slice ma ml mc,.int .i64 mAt,.int .i64 fin] 52 (0,0)))
        (fun v _=>ps.length - (intOf v).toNat)
       case atStart=>exact ⟨0,by omega,rfl,HAP,hB2,CF2,CM2⟩
       case round =>
        clear HAP hB2 CF2 CM2 f0 f1 m0 m1 m2 m3 m4 m5 m6 m7 m8 m9 m10 m11
        obtain ⟨q,hq,rfl,HAP,hB,CF,CM⟩:=hrel
        have m0:=blk_cell CM 0
        have m1:=blk_cell CM 1
        have m2:=blk_cell CM 2
        have m3:=blk_cell CM 3
        have m4:=blk_cell CM 4
        have m5:=blk_cell CM 5
        have m6:=blk_cell CM 6
        have m7:=blk_cell CM 7
        have m8:=blk_cell CM 8
        have m9:=blk_cell CM 9
        have m10:=blk_cell CM 10
        have m11:=blk_cell CM 11
        simp at m0 m1 m2 m3 m4 m5 m6 m7 m8 m9 m10 m11
        have f0:=blk_cell CF 0
        have f1:=blk_cell CF 1
        simp at f0 f1
        have lF:w.heap.size < wr.heap.size:=lt_of_block CF
        have lM:w.heap.size+1 < wr.heap.size:=lt_of_block CM
        have hBs:=hB.size
        by_cases hqn:q < ps.length
        ·obtain ⟨g2,hg2,hg2lt,_,hcell2⟩:=own_some (unhide HPS' _ hB) (by omega)
         obtain ⟨e1,e2,e3⟩:=tcells_at ps q hqn
         have u0:=(hcell2 (q * 2) (by omega)).trans e1
         have u1:=(hcell2 (q * 2+1) (by omega)).trans e2
         have hdq:ps.drop q=ps[q] :: ps.drop (q+1):=List.drop_eq_getElem_cons hqn
         have hA:=unhide HAP
         rw [hdq,allPlain_cons] at hA
         generalize ps[q]=t at *
         obtain ⟨t1,t2⟩:=t
         simp only at u0 u1 hA
         have hfr:=fun w=>unhide HPl t1 t2 w
         generalize Tr.plainB T t1 t2=Z at *
         have HZ:=hide hfr
         have HAA:=hide hA
         have qb:(q:Int) < (ps.length:Int):=by omega
         have lG:g2 < wr.heap.size:=hg2lt
         clear hfr hA hdq e1 e2 e3 hcell2 HAP
         subst hg2
         go_wp2
         go_region_held3 (fun w'=>w'.cell? ⟨w.heap.size,0,none⟩=some (.slice fa1 l.length fc1)∧w'.cell? ⟨w.heap.size,1,none⟩=some (.slice (some ⟨g,0,none⟩) ms.length fc2)∧w'.cell? ⟨w.heap.size+1,2,none⟩=some (.slice (some ⟨g2,0,none⟩) ps.length pc)∧w'.cell? ⟨g2,q * 2,none⟩=some (.int .i64 t1)∧w'.cell? ⟨g2,q * 2+1,none⟩=some (.int .i64 t2))
          (first | exact ⟨f0,f1,m2,u0,u1⟩ | exact ⟨(hb7.cell lF).trans f0,(hb7.cell lF).trans f1,(hb7.cell lM).trans m2,(hb7.cell lG).trans u0,(hb7.cell lG).trans u1⟩)
          (first | (go_at_call 23; refine (unhide HZ _).mono ?_; rintro e w7 ⟨rfl,hb7⟩))
         have hB7:Below w.heap.size w w7:=hB.drew.trans (hb7.mono hBs)
         have CF7:=stay hb7 (show (wr.drew).heap[w.heap.size]?=_ from CF)
         have CM7:=stay hb7 (show (wr.drew).heap[w.heap.size+1]?=_ from CM)
         clear hb7 m0 m1 m2 m3 m4 m5 m6 m7 m8 m9 m10 m11 f0 f1 u0 u1 CF CM hB lF lM lG
         cases Z with
         | false =>
          have hAP:AP=false:=by rw [← unhide HAA]; simp
          have HR:Hid (R=false):=by unfold Hid; rw [← unhide HRES,hAP]; simp
          clear HAA hAP
          go_wp2
          go_ret
          exact ⟨by rw [unhide HR]; rfl,hB7⟩
         | true =>
          have HG:Hid (Tr.allPlainB T (ps.drop (q+1))=AP):=by unfold Hid; rw [← unhide HAA]; simp
          clear HAA
          go_wp2
          go_roundw
          case rel=>exact ⟨q+1,by omega,by go_num,HG,hB7,CF7,CM7⟩
          case measure=>simp [intOf]; omega
        ·have hAP:AP=true:=by rw [← unhide HAP,List.drop_eq_nil_of_le (by omega)]; rfl
         have qb:¬ (q:Int) < (ps.length:Int):=by omega
         have hrs:=unhide HRES
         rw [hAP,if_neg (by simp)] at hrs
         clear HAP hAP HRES
         by_cases hlo:lo < (ps.length:Int)
         ·have HR:Hid (R=false):=by unfold Hid; rw [← hrs]; simp [Hd.bad3,hlo]
          clear hrs
          go_wp2
          go_ret
          exact ⟨by rw [unhide HR]; rfl,hB⟩
         ·by_cases hlo2:lo=(ps.length:Int)
          ·have HR:Hid (R=false):=by unfold Hid; rw [← hrs]; simp [Hd.bad3,hlo2,hown]
           clear hrs
           go_wp2
           go_ret
           exact ⟨by rw [unhide HR]; rfl,hB⟩
          ·have HL:Hid (Hd.okTo T cl nm 0 0 ps k 0 ((ms.map fun p=>p.1.m).drop 0)=R):=by unfold Hid; rw [← hrs]; simp [Hd.bad3,hlo,hlo2,hown]
           clear hrs
           go_wp2
           go_loopw [11] (fun v wr=>∃ i:Nat,i≤ms.length∧v=.int .i64 (i:Int)∧Hid (Hd.okTo T cl nm 0 0 ps k i ((ms.map fun p=>p.1.m).drop i)=R)∧Below w.heap.size w wr∧wr.heap[w.heap.size]?=some (.cells #[.slice fa1 l.length fc1,.slice (some ⟨g,0,none⟩) ms.length fc2] 28 (0,0))∧wr.heap[w.heap.size+1]?=some (.cells #[.int .i64 cl,.int .i64 nm,.slice pa ps.length pc,.int .i64 0,.int .i64 0,.int .i64 lo,.int .i64 st,.string code,.slice ha hl hc,.slice ma ml mc,.int .i64 mAt,.int .i64 fin] 52 (0,0)))
            (fun v _=>ms.length - (intOf v).toNat)
           case atStart=>exact ⟨0,by omega,rfl,HL,hB,CF,CM⟩
           case round =>
            clear HL hB CF CM f0 f1 m0 m1 m2 m3 m4 m5 m6 m7 m8 m9 m10 m11 lF lM hBs
            obtain ⟨i,hi,rfl,HL,hB,CF,CM⟩:=hrel
            have m0:=blk_cell CM 0
            have m1:=blk_cell CM 1
            have m2:=blk_cell CM 2
            have m3:=blk_cell CM 3
            have m4:=blk_cell CM 4
            have m5:=blk_cell CM 5
            have m6:=blk_cell CM 6
            have m7:=blk_cell CM 7
            have m8:=blk_cell CM 8
            have m9:=blk_cell CM 9
            have m10:=blk_cell CM 10
            have m11:=blk_cell CM 11
            simp at m0 m1 m2 m3 m4 m5 m6 m7 m8 m9 m10 m11
            have f0:=blk_cell CF 0
            have f1:=blk_cell CF 1
            simp at f0 f1
            have lF:w.heap.size < wr.heap.size:=lt_of_block CF
            have lM:w.heap.size+1 < wr.heap.size:=lt_of_block CM
            have hBs:=hB.size
            by_cases hin:i < ms.length
            ·obtain ⟨mx,gx,hgx,hgxlt,hrx,hix⟩:=unhide HMT' wr i hin hB
             have hplx:=unhide HPL _ (List.getElem_mem hin)
             have hd:(ms.map fun p=>p.1.m).drop i=ms[i].1.m :: (ms.map fun p=>p.1.m).drop (i+1):=by
              rw [List.drop_eq_getElem_cons (by simpa using hin)]
              simp
             have hr:=unhide HL
             rw [hd,Hd.okTo,Hd.clash] at hr
             obtain ⟨ecl,enm,er1,er2,-,-,-,-,epl,hpx,-,-,-,-,-⟩:=hix
             have eres:ms[i].1.m.result=(mx.r1,mx.r2):=by rw [er1,er2]
             rw [← ecl,← enm,eres] at hr
             replace hrx:=row12 hrx
             generalize ms[i].1.m.params=xps at *
             obtain ⟨xcl,xnm,xpa,xpl,xpc,xr1,xr2,xlo,xst,xcode,xha,xhl,xhc,xma,xml,xmc,xmAt,xfin⟩:=mx
             simp only at epl hgx
             subst epl
             obtain rfl:g=gx:=by simpa using hgx
             simp only at hr hrx hpx
             obtain ⟨z0,z1,z2,z3,z4,z5,z6,z7,z8,z9,z10,z11⟩:=hrx
             have ib:(i:Int) < (ms.length:Int):=by omega
             have HPX:=hide hpx
             have hbl:=fun w h=>unhide HBl cl xcl w h
             generalize Tr.rbel T cl xcl=U at *
             have HU:=hide hbl
             have HRR:=hide hr
             have CX:=alloc_blk wr (.cells #[.int .i64 xcl,.int .i64 xnm,.slice xpa xps.length xpc,.int .i64 xr1,.int .i64 xr2,.int .i64 xlo,.int .i64 xst,.string xcode,.slice xha xhl xhc,.slice xma xml xmc,.int .i64 xmAt,.int .i64 xfin] 52)
             have hBx:=hB.alloc hBs (.cells #[.int .i64 xcl,.int .i64 xnm,.slice xpa xps.length xpc,.int .i64 xr1,.int .i64 xr2,.int .i64 xlo,.int .i64 xst,.string xcode,.slice xha xhl xhc,.slice xma xml xmc,.int .i64 xmAt,.int .i64 xfin] 52)
             have CFx:=stay1 CF (.cells #[.int .i64 xcl,.int .i64 xnm,.slice xpa xps.length xpc,.int .i64 xr1,.int .i64 xr2,.int .i64 xlo,.int .i64 xst,.string xcode,.slice xha xhl xhc,.slice xma xml xmc,.int .i64 xmAt,.int .i64 xfin] 52)
             have CMx:=stay1 CM (.cells #[.int .i64 xcl,.int .i64 xnm,.slice xpa xps.length xpc,.int .i64 xr1,.int .i64 xr2,.int .i64 xlo,.int .i64 xst,.string xcode,.slice xha xhl xhc,.slice xma xml xmc,.int .i64 xmAt,.int .i64 xfin] 52)
             clear hd hr hpx ecl enm er1 er2 eres HL hgx hbl
             by_cases hxn:xnm=nm
             ·have hxn':(xnm != nm)=false:=by simp [hxn]
              by_cases hx5:xcl=255
              ·have hx5':(xcl == 255)=true:=by simp [hx5]
               have HF:Hid (Hd.okTo T cl nm 0 0 ps k (i+1) ((ms.map fun p=>p.1.m).drop (i+1))=R):=by unfold Hid; rw [← unhide HRR]; simp [hxn,hx5]
               clear hxn hx5
               clear HRR
               go_wp2
               go_roundw
               case rel=>exact ⟨i+1,by omega,by go_num,HF,hBx,CFx,CMx⟩
               case measure=>simp [intOf]; omega
              ·have hx5':(xcl == 255)=false:=by simp [hx5]
               by_cases hxc:xcl=cl
               ·have hxc':(xcl == cl)=true:=by simp [hxc]
                by_cases hik:i < k
                ·have hik':(i:Int) < (k:Int):=by omega
                 have HF:Hid (R=false):=by unfold Hid; rw [← unhide HRR]; simp [hxn,hxc,hik,hown]
                 clear hxn hx5 hxc
                 clear HRR
                 go_wp2
                 go_ret
                 exact ⟨by rw [unhide HF]; rfl,hBx⟩
                ·have hik':¬ (i:Int) < (k:Int):=by omega
                 have HF:Hid (Hd.okTo T cl nm 0 0 ps k (i+1) ((ms.map fun p=>p.1.m).drop (i+1))=R):=by unfold Hid; rw [← unhide HRR]; simp [hxn,hxc,hik,hown]
                 clear hxn hx5 hxc
                 clear HRR
                 go_wp2
                 go_roundw
                 case rel=>exact ⟨i+1,by omega,by go_num,HF,hBx,CFx,CMx⟩
                 case measure=>simp [intOf]; omega
               ·have hxc':(xcl == cl)=false:=by simp [hxc]
                have HXN:=hide hxn
                have HX5:=hide hx5
                have HXC:=hide hxc
                clear hxn hx5 hxc
                go_wp2_with fail
                refine (unhide HU _ (unhide HOK _ hBx)).mono ?_
                rintro e w3 ⟨rfl,hb3⟩
                have hB3:=hBx.trans (hb3.mono hBx.size)
                have CF3:=stay hb3 CFx
                have CM3:=stay hb3 CMx
                have CX3:=stay hb3 CX
                have hpx3:TysAt w3 bb (.slice xpa xps.length xpc) xps:=(unhide HPX).kp (Kp.of_below (e:=none) (((Below.refl _ _).alloc (Nat.le_refl _) _).trans (hb3.mono (by simp)))) (by decide)
                have hps3:=unhide HPS' _ hB3
                clear hb3 hBx CF CM CFx CMx CX hB f0 f1 m0 m1 m2 m3 m4 m5 m6 m7 m8 m9 m10 m11 z0 z1 z2 z3 z4 z5 z6 z7 z8 z9 z10 z11 lF lM hBs
                have m2:=blk_cell CM3 2
                have m3:=blk_cell CM3 3
                have m4:=blk_cell CM3 4
                have x2:=blk_cell CX3 2
                have x3:=blk_cell CX3 3
                have x4:=blk_cell CX3 4
                simp at m2 m3 m4 x2 x3 x4
                have hsm:=rsame_any xps ps xpa pa xpc pc bb bb w3 hpx3 hps3 hplx hpk
                generalize decide (xps=ps)=SM at *
                have HSM:=hide hsm
                clear hsm hpx3 hps3
                go_wp2_with fail
                refine (unhide HSM).mono ?_
                rintro e w4 ⟨rfl,hb4⟩
                have hB4:=hB3.trans (hb4.mono hB3.size)
                have CF4:=stay hb4 CF3
                have CM4:=stay hb4 CM3
                have CX4:=stay hb4 CX3
                clear hb4 hB3 CF3 CM3 CX3 m2 m3 m4 x2 x3 x4
                have m3:=blk_cell CM4 3
                have m4:=blk_cell CM4 4
                have x3:=blk_cell CX4 3
                have x4:=blk_cell CX4 4
                simp at m3 m4 x3 x4
                cases U with
                | false =>
                 have HF:Hid (Hd.okTo T cl nm 0 0 ps k (i+1) ((ms.map fun p=>p.1.m).drop (i+1))=R):=by unfold Hid; rw [← unhide HRR]; simp [unhide HXN,unhide HX5,unhide HXC]
                 clear HRR
                 go_wp2
                 go_roundw
                 case rel=>exact ⟨i+1,by omega,by go_num,HF,hB4,CF4,CM4⟩
                 case measure=>simp [intOf]; omega
                | true =>
                 cases SM with
                 | false =>
                  have HF:Hid (R=false):=by unfold Hid; rw [← unhide HRR]; simp [unhide HXN,unhide HX5,unhide HXC]
                  clear HRR
                  go_wp2
                  go_ret
                  exact ⟨by rw [unhide HF]; rfl,hB4⟩
                 | true =>
                  by_cases hr1:xr1=0
                  ·by_cases hr2:xr2=0
                   ·have HF:Hid (Hd.okTo T cl nm 0 0 ps k (i+1) ((ms.map fun p=>p.1.m).drop (i+1))=R):=by unfold Hid; rw [← unhide HRR]; simp [unhide HXN,unhide HX5,unhide HXC,hr1,hr2]
                    clear HRR
                    go_wp2
                    go_roundw
                    case rel=>exact ⟨i+1,by omega,by go_num,HF,hB4,CF4,CM4⟩
                    case measure=>simp [intOf]; omega
                   ·have HF:Hid (R=false):=by unfold Hid; rw [← unhide HRR]; simp [unhide HXN,unhide HX5,unhide HXC,hr2]
                    clear HRR
                    go_wp2
                    go_ret
                    exact ⟨by rw [unhide HF]; rfl,hB4⟩
                  ·have HF:Hid (R=false):=by unfold Hid; rw [← unhide HRR]; simp [unhide HXN,unhide HX5,unhide HXC,hr1]
                   clear HRR
                   go_wp2
                   go_ret
                   exact ⟨by rw [unhide HF]; rfl,hB4⟩
             ·have hxn':(xnm != nm)=true:=by simp [hxn]
              have HF:Hid (Hd.okTo T cl nm 0 0 ps k (i+1) ((ms.map fun p=>p.1.m).drop (i+1))=R):=by unfold Hid; rw [← unhide HRR]; simp [hxn]
              clear hxn
              clear HRR
              go_wp2
              go_roundw
              case rel=>exact ⟨i+1,by omega,by go_num,HF,hBx,CFx,CMx⟩
              case measure=>simp [intOf]; omega
            ·have HF:Hid (R=true):=by unfold Hid; rw [← unhide HL,List.drop_eq_nil_of_le (by simp; omega)]; rfl
             have ib:¬ (i:Int) < (ms.length:Int):=by omega
             clear HL
             go_wp2
             go_ret
             exact ⟨by rw [unhide HF]; rfl,hB⟩
      ·have HR:Hid (R=false):=by unfold Hid; rw [← hres]; simp [hown,h7,hz2]
       clear hres
       go_enter Tryz.func12,Tryz.ntmps12
       go_wp2_with fail
       refine (unhide HHA _).mono ?_
       rintro e w1 ⟨rfl,hb1⟩
       have hB1:=hB0.trans (hb1.mono (by simp; omega))
       have CF1:=stay hb1 CF0
       have CM1:=stay hb1 CM0
       clear hb1 hB0 CF0 CM0 y0 y1 y2 y3 y4 y5 y6 y7 y8 y9 y10 y11
       have f0:=blk_cell CF1 0
       have f1:=blk_cell CF1 1
       have m0:=blk_cell CM1 0
       have m1:=blk_cell CM1 1
       have m3:=blk_cell CM1 3
       have m4:=blk_cell CM1 4
       simp at f0 f1 m0 m1 m3 m4
       go_wp2_with fail
       refine (unhide HPA _).mono ?_
       rintro e w2 ⟨rfl,hb2⟩
       have hB2:=hB1.trans (hb2.mono hB1.size)
       have CF2:=stay hb2 CF1
       have CM2:=stay hb2 CM1
       clear hb2 hB1 CF1 CM1 f0 f1 m0 m1 m3 m4
       have m0:=blk_cell CM2 0
       have m1:=blk_cell CM2 1
       have m2:=blk_cell CM2 2
       have m3:=blk_cell CM2 3
       have m4:=blk_cell CM2 4
       have m5:=blk_cell CM2 5
       have m6:=blk_cell CM2 6
       have m7:=blk_cell CM2 7
       have m8:=blk_cell CM2 8
       have m9:=blk_cell CM2 9
       have m10:=blk_cell CM2 10
       have m11:=blk_cell CM2 11
       simp at m0 m1 m2 m3 m4 m5 m6 m7 m8 m9 m10 m11
       have f0:=blk_cell CF2 0
       have f1:=blk_cell CF2 1
       simp at f0 f1
       go_wp2
       go_ret
       exact ⟨by rw [unhide HR]; rfl,hB2⟩
     ·have HR:Hid (R=false):=by unfold Hid; rw [← hres]; simp [hown,h7,hz1]
      clear hres
      go_enter Tryz.func12,Tryz.ntmps12
      go_wp2_with fail
      refine (unhide HHA _).mono ?_
      rintro e w1 ⟨rfl,hb1⟩
      have hB1:=hB0.trans (hb1.mono (by simp; omega))
      have CF1:=stay hb1 CF0
      have CM1:=stay hb1 CM0
      clear hb1 hB0 CF0 CM0 y0 y1 y2 y3 y4 y5 y6 y7 y8 y9 y10 y11
      have f0:=blk_cell CF1 0
      have f1:=blk_cell CF1 1
      have m0:=blk_cell CM1 0
      have m1:=blk_cell CM1 1
      have m3:=blk_cell CM1 3
      have m4:=blk_cell CM1 4
      simp at f0 f1 m0 m1 m3 m4
      go_wp2_with fail
      refine (unhide HPA _).mono ?_
      rintro e w2 ⟨rfl,hb2⟩
      have hB2:=hB1.trans (hb2.mono hB1.size)
      have CF2:=stay hb2 CF1
      have CM2:=stay hb2 CM1
      clear hb2 hB1 CF1 CM1 f0 f1 m0 m1 m3 m4
      have m0:=blk_cell CM2 0
      have m1:=blk_cell CM2 1
      have m2:=blk_cell CM2 2
      have m3:=blk_cell CM2 3
      have m4:=blk_cell CM2 4
      have m5:=blk_cell CM2 5
      have m6:=blk_cell CM2 6
      have m7:=blk_cell CM2 7
      have m8:=blk_cell CM2 8
      have m9:=blk_cell CM2 9
      have m10:=blk_cell CM2 10
      have m11:=blk_cell CM2 11
      simp at m0 m1 m2 m3 m4 m5 m6 m7 m8 m9 m10 m11
      have f0:=blk_cell CF2 0
      have f1:=blk_cell CF2 1
      simp at f0 f1
      go_wp2
      go_ret
      exact ⟨by rw [unhide HR]; rfl,hB2⟩
end Go.Proofs.YteffpdofcgbokaaGreat

/-
  The document's Formed as a plain function; how great what its reader reads can be (no Go in sight).
-/
namespace Go.Proofs.YteffpdofcgbokaaGreat

structure Rf.MBd (x:Rf.Mth):Prop where
 ps:x.m.params.length≤1000
 code:x.m.code.length≤100000
 hs:x.m.handlers.length≤1000
 mp:x.m.maps.length≤1000
 fr:∀ p∈x.m.maps,p.locals.length≤1000∧p.stack.length≤1000

theorem rrep_all {α:Type} (P:α→Prop) (f:Int→α × Int) (h:∀ i,P (f i).1) (n:Nat) (i:Int):(∀ x∈(Rf.rep f n i).1,P x)∧(Rf.rep f n i).1.length≤n:=by
 induction n with
 | zero=>simp [Rf.rep]
 | succ k ih =>
  unfold Rf.rep
  split
  ·simp
  ·split
   ·simp
   ·refine ⟨?_,by simp; exact ih.2⟩
    intro x hx
    simp only [List.mem_append,List.mem_singleton] at hx
    rcases hx with hx | hx
    ·exact ih.1 x hx
    ·rw [hx]; exact h _
theorem codeTo_len (s:List UInt8) (i:Int) (n:Nat):(Rf.codeTo s i n).length=n:=by
 induction n with
 | zero=>rfl
 | succ k ih=>simp [Rf.codeTo,ih]
theorem hnds_len (s:List UInt8) (i:Int):(Rf.hnds s i).1.length≤1000:=by
 unfold Rf.hnds
 have hb:=Rf.cnt_bd s i 0 4 (by omega)
 split
 ·simp
 ·split
  ·simp
  ·simp only
   rw [hndTo_len]
   omega
theorem mps_bd (s:List UInt8) (i L H:Int) (hL:L≤8) (hH0:-1≤H) (hH:H≤8):(Rf.mps s i L H).1.length≤1000∧∀ p∈(Rf.mps s i L H).1,p.locals.length≤1000∧p.stack.length≤1000:=by
 unfold Rf.mps
 have hb:=Rf.cnt_bd s i 0 64 (by omega)
 split
 ·simp
 ·have:=rrep_all (fun p:Rd.Mp=>p.locals.length≤1000∧p.stack.length≤1000) (Rf.mp s L H) (fun j=>by
   unfold Rf.mp
   have hc:=Rf.cnt_bd s (j+1+2 * L) 0 H hH0
   split
   ·simp
   ·simp only
    rw [rtys_len,rtys_len]
    omega) (Rf.cnt s i 0 64).toNat (i+1)
  exact ⟨by omega,this.1⟩
theorem mth_bd (s:List UInt8) (i:Int):Rf.MBd (Rf.mth s i).1:=by
 have none:Rf.MBd ⟨⟨0,0,[],(0,0),0,0,[],[],[]⟩,0,0⟩:=⟨by simp,by simp,by simp,by simp,by simp⟩
 unfold Rf.mth
 have h1:=Rf.cnt_bd s (i+2) 0 4 (by omega)
 have h2:=Rf.cnt_bd s (i+3+2 * Rf.cnt s (i+2) 0 4+2) 0 8 (by omega)
 have h3:=Rf.cnt_bd s (i+3+2 * Rf.cnt s (i+2) 0 4+3) 0 8 (by omega)
 have h4:=Rf.cnt_bd s (i+3+2 * Rf.cnt s (i+2) 0 4+4) 1 120 (by omega)
 dsimp only
 split
 ·exact none
 ·split
  ·exact none
  ·split
   ·exact none
   ·split
    ·exact none
    ·split
     ·exact none
     ·split
      ·exact none
      ·exact ⟨by simp only; rw [rtys_len]; omega,by simp only; rw [codeTo_len]; omega,hnds_len s _,(mps_bd s _ _ _ h2.2 h3.1 h3.2).1,(mps_bd s _ _ _ h2.2 h3.1 h3.2).2⟩
theorem fil_mbd (s:List UInt8):(Rf.fil s).2.1.length≤6∧∀ x∈(Rf.fil s).2.1,Rf.MBd x:=by
 unfold Rf.fil
 split
 ·simp
 ·split
  ·simp
  ·split
   ·simp
   ·dsimp only
    split
    ·simp
    ·split
     ·simp
     ·split
      ·simp
      ·have hb:=Rf.cnt_bd s (Rf.rep (Rf.cls s) (Rf.cnt s 2 0 6).toNat 3).2 1 6 (by omega)
       have:=rrep_all Rf.MBd (Rf.mth s) (mth_bd s) (Rf.cnt s (Rf.rep (Rf.cls s) (Rf.cnt s 2 0 6).toNat 3).2 1 6).toNat ((Rf.rep (Rf.cls s) (Rf.cnt s 2 0 6).toNat 3).2+1)
       exact ⟨by simp only; omega,this.1⟩
end Go.Proofs.YteffpdofcgbokaaGreat

/-
  The walk over the document's Formed: the errors of form.
-/
namespace Go.Proofs.YteffpdofcgbokaaGreat
open Go.RowKit

/-- may the head of method k be? -/
def Fm.headOk (T:List Int) (ms:List Rd.Mth) (k:Nat) (m:Rd.Mth):Bool:=Hd.headB T ms k m.cl m.name m.result.1 m.result.2 m.locals m.params
/-- the number of the first method whose head may not be, or -1 -/
def Fm.heads (T:List Int) (ms:List Rd.Mth):Nat→List Rd.Mth→Int
 | _,[]=>-1
 | k,m :: r=>if Fm.headOk T ms k m=false then (k:Int) else Fm.heads T ms (k+1) r
/-- of one method: the error of its code, handlers, maps, and its number -/
def Fm.body (T:List Int) (nf:Int) (ow:List Int) (m:Rd.Mth):Int × Int :=
 if 0≤Cd.badCode T nf ow m.locals m.code then (5,Cd.badCode T nf ow m.locals m.code)
 else if 0≤Cd.firstIx (Cd.hndBad T m.code) 0 m.handlers then (6,Cd.firstIx (Cd.hndBad T m.code) 0 m.handlers)
 else if 0≤Cd.mapsBad T m.code 0 (-1) m.maps then (7,Cd.mapsBad T m.code 0 (-1) m.maps)
 else (0,0)
def Fm.bodies (T:List Int) (nf:Int) (ow:List Int):Nat→List Rd.Mth→Int × Int × Int
 | _,[]=>(0,0,0)
 | k,m :: r=>if (Fm.body T nf ow m).1 ≠ 0 then ((Fm.body T nf ow m).1,(k:Int),(Fm.body T nf ow m).2) else Fm.bodies T nf ow (k+1) r
/-- of a file whose classes may be -/
def Fm.rest (T:List Int) (nf:Int) (ms:List Rd.Mth):Int × Int × Int :=
 if 0≤Fm.heads T ms 0 ms then (4,Fm.heads T ms 0 ms,0) else Fm.bodies T nf (ms.map Rd.Mth.cl) 0 ms
/-- how many fields a file has -/
def Rf.nf (s:List UInt8):Int:=((Rf.fieldsTo (Tr.tree (Rf.fil s).1) (Rf.given ++ (Rf.fil s).1) (Rf.fil s).1.length).length:Int)
def Rf.formed (s:List UInt8):Int × Int × Int :=
 if (Rf.classed s).1 ≠ 0 then ((Rf.classed s).1,(Rf.classed s).2,0) else Fm.rest (Tr.tree (Rf.fil s).1) (Rf.nf s) ((Rf.fil s).2.1.map Rf.Mth.m)

/-- what Formed gives -/
def RFmdPost (s:List UInt8) (w:World) (e:Ending) (w':World):Prop :=
 ∃ a1 n1 c1 a2 n2 c2,e=.returned (.tuple #[.agg #[.slice a1 n1 c1,.slice a2 n2 c2],.int .i64 (Rf.formed s).1,.int .i64 (Rf.formed s).2.1,.int .i64 (Rf.formed s).2.2]) ∧
  ((Rf.formed s).1=0→∃ l1 l2,l1.map Prod.fst=Rf.given ++ (Rf.fil s).1∧RClssIn w' w.heap.size (.slice a1 n1 c1) l1∧l2.map Prod.fst=(Rf.fil s).2.1∧RMthsIn w' w.heap.size (.slice a2 n2 c2) l2)∧Below w.heap.size w w'

set_option maxRecDepth 100000 in
set_option maxHeartbeats 20000000 in
theorem rformed_any (s:ByteArray) (w:World) (hs:s.size≤maxLen) :
  Calls Tryz.prog 8 #[.string s] w fun e w'=>RFmdPost s.data.toList w e w':=by
 have hcd:=fun w=>rclassed_any s w hs
 have hgs:=fun l1 hl1=>given_supers l1 (Rf.fil s.data.toList).1 hl1
 have hb1:=fil_bd s.data.toList
 have hb2:=fil_mbd s.data.toList
 unfold RClsdPost at hcd
 unfold RFmdPost Rf.formed Rf.nf
 generalize Rf.classed s.data.toList=C at *
 generalize Rf.fil s.data.toList=Fi at *
 have HCD:=hide hcd
 clear hcd
 have R0':=alloc_blk w (.cells #[.slice none 0 0,.slice none 0 0] 28)
 have hBw:Below w.heap.size w (w.alloc (.cells #[.slice none 0 0,.slice none 0 0] 28)):=(Below.refl _ _).alloc (Nat.le_refl _) _
 by_cases h0:C.1=0
 ·rw [if_neg (fun h=>h h0)]
  have h0':(C.1 != 0)=false:=by simp [h0]
  have H0:=hide h0
  clear h0
  generalize hF:Fm.rest (Tr.tree Fi.1) ((Rf.fieldsTo (Tr.tree Fi.1) (Rf.given ++ Fi.1) Fi.1.length).length:Int) (Fi.2.1.map Rf.Mth.m)=F
  have HF:=hide hF
  have HGS:=hide hgs
  have HB1:=hide hb1
  have HB2:=hide hb2
  clear hF hgs hb1 hb2
  go_enter Tryz.func8,Tryz.ntmps8
  go_wp2_with fail
  refine (unhide HCD _).mono ?_
  rintro e w1 ⟨a1,n1,c1,a2,n2,c2,rfl,hok,hb1⟩
  obtain ⟨l1,l2,hl1,hc1,hl2,hc2⟩:=hok (unhide H0)
  obtain ⟨xa,xc,hsh⟩:=own_shape hc1.1
  simp only [Value.slice.injEq] at hsh
  obtain ⟨rfl,rfl,rfl⟩:=hsh
  obtain ⟨xa,xc,hsh⟩:=own_shape hc2.1
  simp only [Value.slice.injEq] at hsh
  obtain ⟨rfl,rfl,rfl⟩:=hsh
  obtain ⟨hg1,_,hg3⟩:=unhide HGS l1 hl1
  have hb1':=unhide HB1
  have hb2':=unhide HB2
  have hm6:l2.length≤6:=by
   have:(l2.map Prod.fst).length≤6:=by rw [hl2]; exact hb2'.1
   simpa using this
  -- the file as the functions take it
  have hfok:(RFl.mk a1 c1 a2 c2 (w.alloc (.cells #[.slice none 0 0,.slice none 0 0] 28)).heap.size l1 l2).ok w1:=by
   refine ⟨by simp only; have:=hb1'.1; omega,by simp only; omega,hm6,?_,hc1,hc2⟩
   intro p hp
   have hp':p.1∈Rf.given ++ Fi.1:=by rw [← hl1]; exact List.mem_map_of_mem hp
   rcases List.mem_append.1 hp' with h | h
   ·simp [Rf.given] at h
    rcases h with h | h | h <;> (rw [h]; simp)
   ·exact hb1'.2 _ h
  have hmb:∀ p∈l2,Rf.MBd p.1:=fun p hp=>hb2'.2 _ (by rw [← hl2]; exact List.mem_map_of_mem hp)
  have hfl:(RFl.mk a1 c1 a2 c2 (w.alloc (.cells #[.slice none 0 0,.slice none 0 0] 28)).heap.size l1 l2).fields=Rf.fieldsTo (Tr.tree Fi.1) (Rf.given ++ Fi.1) Fi.1.length:=by
   simp only [RFl.fields]
   rw [hg1,hl1,show l1.length - 7=Fi.1.length by omega]
  have hft:(RFl.mk a1 c1 a2 c2 (w.alloc (.cells #[.slice none 0 0,.slice none 0 0] 28)).heap.size l1 l2).T=Tr.tree Fi.1:=hg1
  have hfo:(RFl.mk a1 c1 a2 c2 (w.alloc (.cells #[.slice none 0 0,.slice none 0 0] 28)).heap.size l1 l2).owners=(Fi.2.1.map Rf.Mth.m).map Rd.Mth.cl:=by
   simp only [RFl.owners]
   rw [← hl2]
   simp
  have hml:Fi.2.1.map Rf.Mth.m=l2.map fun p=>p.1.m:=by rw [← hl2]; simp
  have hHd:∀ (k:Nat) (w':World) (hk:k < l2.length),Below w1.heap.size w1 w'→Calls Tryz.prog 12 #[.agg #[.slice a1 l1.length c1,.slice a2 l2.length c2],.int .i64 (k:Int)] w' fun e w2=>e=.returned (.bool (Fm.headOk (Tr.tree Fi.1) (l2.map fun p=>p.1.m) k l2[k].1.m))∧Below w'.heap.size w' w2:=by
   intro k w' hk hb
   have:=rhead_any (RFl.mk a1 c1 a2 c2 (w.alloc (.cells #[.slice none 0 0,.slice none 0 0] 28)).heap.size l1 l2) k w' (hfok.below hb) hk (fun p hp=>(hmb p hp).ps)
   rw [hft] at this
   exact this
  have hBd:∀ (k:Nat) (w':World) (hk:k < l2.length),Below w1.heap.size w1 w'→∃ (m:RMV) (g:Nat),a2=some ⟨g,0,none⟩∧g < w'.heap.size∧(∀ j v,m.list[j]?=some v→w'.cell? ⟨g,k * 12+j,none⟩=some v) ∧
    ∀ w2,Below w'.heap.size w' w2 →
     (Calls Tryz.prog 13 #[.agg #[.slice a1 l1.length c1,.slice a2 l2.length c2],m.val] w2 fun e w3=>e=.returned (.int .i64 (Cd.badCode (Tr.tree Fi.1) ((Rf.fieldsTo (Tr.tree Fi.1) (Rf.given ++ Fi.1) Fi.1.length).length:Int) ((l2.map fun p=>p.1.m).map Rd.Mth.cl) l2[k].1.m.locals l2[k].1.m.code))∧Below w2.heap.size w2 w3) ∧
     (Calls Tryz.prog 14 #[.agg #[.slice a1 l1.length c1,.slice a2 l2.length c2],m.val] w2 fun e w3=>e=.returned (.int .i64 (Cd.firstIx (Cd.hndBad (Tr.tree Fi.1) l2[k].1.m.code) 0 l2[k].1.m.handlers))∧Below w2.heap.size w2 w3) ∧
     (Calls Tryz.prog 15 #[.agg #[.slice a1 l1.length c1,.slice a2 l2.length c2],m.val] w2 fun e w3=>e=.returned (.int .i64 (Cd.mapsBad (Tr.tree Fi.1) l2[k].1.m.code 0 (-1) l2[k].1.m.maps))∧Below w2.heap.size w2 w3):=by
   intro k w' hk hb
   obtain ⟨m,g,hg,hglt,hrow,his⟩:=RFl.mth (hfok.below hb) (k:=k) hk
   refine ⟨m,g,hg,hglt,hrow,fun w2 hb2=>?_⟩
   have hbd:=hmb _ (List.getElem_mem hk)
   have his2:=his.below hb2
   have hf2:=hfok.below (hb.trans (hb2.mono hb.size))
   have hcs:m.code.size≤100000:=by
    rw [← nums_len,his.code]
    exact hbd.code
   have hlo:=his.lo
   have hco:=his.code
   simp only at hlo hco
   refine ⟨?_,?_,?_⟩
   ·have:=rbadCode_any (RFl.mk a1 c1 a2 c2 (w.alloc (.cells #[.slice none 0 0,.slice none 0 0] 28)).heap.size l1 l2) m w2 hf2 hcs
    rw [hft,hfl,hfo,hlo,hco,hml] at this
    exact this
   ·have:=rbadHandler_any (RFl.mk a1 c1 a2 c2 (w.alloc (.cells #[.slice none 0 0,.slice none 0 0] 28)).heap.size l1 l2) m l2[k].1.m.handlers w2 hf2 hcs his2.hl hbd.hs his2.hs
    rw [hft,hco] at this
    exact this
   ·obtain ⟨lm,hlm,hmp⟩:=his2.mp
    have hlm':m.ml=lm.length:=by rw [his2.ml,← hlm]; simp
    have:=rbadMap_any (RFl.mk a1 c1 a2 c2 (w.alloc (.cells #[.slice none 0 0,.slice none 0 0] 28)).heap.size l1 l2) m lm w2 hcs hlm' (by rw [← hlm',his2.ml]; exact hbd.mp) (fun p hp=>hbd.fr _ (by rw [← hlm]; exact List.mem_map_of_mem hp)) hmp
    rw [hft,hco,hlm] at this
    exact this
  have hF:=unhide HF
  rw [hml] at hF
  clear hfok hmb hfl hft hfo hml hg1 hg3 HGS HB1 HB2 hb1' hb2' hok HCD HF
  generalize ((Rf.fieldsTo (Tr.tree Fi.1) (Rf.given ++ Fi.1) Fi.1.length).length:Int)=nf at *
  generalize Tr.tree Fi.1=T at *
  unfold Fm.rest at hF
  generalize how:(l2.map fun p=>p.1.m).map Rd.Mth.cl=ow at *
  clear how
  have hB1:=hBw.trans (hb1.mono (by simp))
  have RR1:=stay1 (stay hb1 R0') (.cells #[.slice a1 l1.length c1,.slice a2 l2.length c2] 28)
  have CF1:=alloc_blk w1 (.cells #[.slice a1 l1.length c1,.slice a2 l2.length c2] 28)
  have hBo1:Below w1.heap.size w1 (w1.alloc (.cells #[.slice a1 l1.length c1,.slice a2 l2.length c2] 28)):=(Below.refl _ _).alloc (Nat.le_refl _) _
  have hs1:=hB1.size
  generalize hhr:Fm.heads T (l2.map fun p=>p.1.m) 0 (l2.map fun p=>p.1.m)=hr at hF
  have HHR:Hid (Fm.heads T (l2.map fun p=>p.1.m) 0 ((l2.map fun p=>p.1.m).drop 0)=hr):=hhr
  have HFF:=hide hF
  have HHd:=hide hHd
  have HBd:=hide hBd
  have HC1:=hide hc1
  have HC2:=hide hc2
  have HL1:=hide hl1
  have HL2:=hide hl2
  clear hhr hF hHd hBd hc1 hc2 hl1 hl2 hb1 hBw R0'
  go_wp2
  go_loopw [9] (fun v wr=>∃ k:Nat,k≤l2.length∧v=.int .i64 (k:Int)∧Hid (Fm.heads T (l2.map fun p=>p.1.m) k ((l2.map fun p=>p.1.m).drop k)=hr)∧Below w1.heap.size w1 wr∧wr.heap[w.heap.size]?=some (.cells #[.slice none 0 0,.slice none 0 0] 28 (0,0))∧wr.heap[w1.heap.size]?=some (.cells #[.slice a1 l1.length c1,.slice a2 l2.length c2] 28 (0,0)))
   (fun v _=>l2.length - (intOf v).toNat)
  case atStart=>exact ⟨0,by omega,rfl,HHR,hBo1,RR1,CF1⟩
  case round =>
   clear HHR hBo1 RR1 CF1
   obtain ⟨k,hk,rfl,HHR,hBo,RR,CF⟩:=hrel
   have f0:=blk_cell CF 0
   have f1:=blk_cell CF 1
   simp at f0 f1
   by_cases hkn:k < l2.length
   ·have hd:(l2.map fun p=>p.1.m).drop k=l2[k].1.m :: (l2.map fun p=>p.1.m).drop (k+1):=by
     rw [List.drop_eq_getElem_cons (by simpa using hkn)]
     simp
    have hq:=unhide HHR
    rw [hd,Fm.heads] at hq
    have hh:=unhide HHd k wr hkn hBo
    generalize Fm.headOk T (l2.map fun p=>p.1.m) k l2[k].1.m=A at *
    have HH:=hide hh
    have HQ:=hide hq
    have kb:(k:Int) < (l2.length:Int):=by omega
    clear hd hq hh HHR
    go_wp2_with fail
    refine (unhide HH).mono ?_
    rintro e w2 ⟨rfl,hb2⟩
    have hBo2:=hBo.trans (hb2.mono hBo.size)
    have CF2:=stay hb2 CF
    have RR2:=stay hb2 RR
    clear hb2 hBo CF RR f0 f1
    cases A with
    | true =>
     have HG:Hid (Fm.heads T (l2.map fun p=>p.1.m) (k+1) ((l2.map fun p=>p.1.m).drop (k+1))=hr):=by unfold Hid; rw [← unhide HQ]; simp
     clear HQ
     go_wp2
     go_roundw
     case rel=>exact ⟨k+1,by omega,by go_num,HG,hBo2,RR2,CF2⟩
     case measure=>simp [intOf]; omega
    | false =>
     have hrk:hr=(k:Int):=by rw [← unhide HQ]; simp
     have HE:Hid (F=(4,(k:Int),0)):=by unfold Hid; rw [← unhide HFF,hrk,if_pos (by omega)]
     have RR:=RR2
     have hBf:=hB1.trans (hBo2.mono hs1)
     clear HQ hrk RR2 CF2
     have r0:=blk_cell RR 0
     have r1:=blk_cell RR 1
     have q0:=blk_free RR 0
     have q1:=blk_free RR 1
     have lr:=lt_of_block RR
     simp at r0 r1
     go_wp2_with fail
     refine bodyPost_ret (v:=.tuple #[.agg #[.slice none 0 0,.slice none 0 0],.int .i64 4,.int .i64 (k:Int),.int .i64 0]) (by simp [results,Tryz.results8,go_sem,r0,r1]) rfl ?_
     rw [unhide HE]
     exact ⟨none,0,0,none,0,0,rfl,fun h=>absurd h (by simp),(hBf.setCell (by simp) _).setCell (by simp) _⟩
   ·have hr1:hr = -1:=by rw [← unhide HHR,List.drop_eq_nil_of_le (by simp; omega)]; rfl
    have HBB:Hid (Fm.bodies T nf ow 0 ((l2.map fun p=>p.1.m).drop 0)=F):=by unfold Hid; rw [← unhide HFF,hr1]; simp
    have kb:¬ (k:Int) < (l2.length:Int):=by omega
    have RR2:=RR
    have CF2:=CF
    have hBo2:=hBo
    clear hr1 HHR HFF HHd RR CF hBo hk
    go_wp2
    go_loopw [11] (fun v wr=>∃ k:Nat,k≤l2.length∧v=.int .i64 (k:Int)∧Hid (Fm.bodies T nf ow k ((l2.map fun p=>p.1.m).drop k)=F)∧Below w1.heap.size w1 wr∧wr.heap[w.heap.size]?=some (.cells #[.slice none 0 0,.slice none 0 0] 28 (0,0))∧wr.heap[w1.heap.size]?=some (.cells #[.slice a1 l1.length c1,.slice a2 l2.length c2] 28 (0,0)))
     (fun v _=>l2.length - (intOf v).toNat)
    case atStart=>exact ⟨0,by omega,rfl,HBB,hBo2,RR2,CF2⟩
    case round =>
     clear HBB hBo2 RR2 CF2 f0 f1 kb
     obtain ⟨k,hk,rfl,HBB,hBo,RR,CF⟩:=hrel
     have f0:=blk_cell CF 0
     have f1:=blk_cell CF 1
     simp at f0 f1
     have lF:=lt_of_block CF
     have lR:=lt_of_block RR
     have hBos:=hBo.size
     by_cases hkn:k < l2.length
     ·obtain ⟨m,g,hg,hglt,hrow,hcalls⟩:=unhide HBd k wr hkn hBo
      replace hrow:=row12 hrow
      have hd:(l2.map fun p=>p.1.m).drop k=l2[k].1.m :: (l2.map fun p=>p.1.m).drop (k+1):=by
       rw [List.drop_eq_getElem_cons (by simpa using hkn)]
       simp
      have hq:=unhide HBB
      rw [hd,Fm.bodies,Fm.body] at hq
      generalize Cd.badCode T nf ow l2[k].1.m.locals l2[k].1.m.code=bc at *
      generalize Cd.firstIx (Cd.hndBad T l2[k].1.m.code) 0 l2[k].1.m.handlers=bh at *
      generalize Cd.mapsBad T l2[k].1.m.code 0 (-1) l2[k].1.m.maps=bm at *
      obtain ⟨cl,nm,pa,pl,pc,r1,r2,lo,st,code,ha,hl,hc,ma,ml,mc,mAt,fin⟩:=m
      simp only [RMV.val] at hrow hcalls
      obtain ⟨y0,y1,y2,y3,y4,y5,y6,y7,y8,y9,y10,y11⟩:=hrow
      have kb:(k:Int) < (l2.length:Int):=by omega
      have HCL:=hide hcalls
      have HQ:=hide hq
      have hBr0:Below wr.heap.size wr (wr.alloc (.cells #[.int .i64 cl,.int .i64 nm,.slice pa pl pc,.int .i64 r1,.int .i64 r2,.int .i64 lo,.int .i64 st,.string code,.slice ha hl hc,.slice ma ml mc,.int .i64 mAt,.int .i64 fin] 52)):=(Below.refl _ _).alloc (Nat.le_refl _) _
      have CX0:=alloc_blk wr (.cells #[.int .i64 cl,.int .i64 nm,.slice pa pl pc,.int .i64 r1,.int .i64 r2,.int .i64 lo,.int .i64 st,.string code,.slice ha hl hc,.slice ma ml mc,.int .i64 mAt,.int .i64 fin] 52)
      have CF0:=stay1 CF (.cells #[.int .i64 cl,.int .i64 nm,.slice pa pl pc,.int .i64 r1,.int .i64 r2,.int .i64 lo,.int .i64 st,.string code,.slice ha hl hc,.slice ma ml mc,.int .i64 mAt,.int .i64 fin] 52)
      have RR0:=stay1 RR (.cells #[.int .i64 cl,.int .i64 nm,.slice pa pl pc,.int .i64 r1,.int .i64 r2,.int .i64 lo,.int .i64 st,.string code,.slice ha hl hc,.slice ma ml mc,.int .i64 mAt,.int .i64 fin] 52)
      clear hd hq hcalls HBB
      subst hg
      go_wp2_with fail
      refine (unhide HCL _ hBr0).1.mono ?_
      rintro e w3 ⟨rfl,hb3⟩
      have hBr3:=hBr0.trans (hb3.mono (by simp))
      have CX3:=stay hb3 CX0
      have CF3:=stay hb3 CF0
      have RR3:=stay hb3 RR0
      clear hb3 hBr0 CX0 CF0 RR0 CF RR f0 f1 y0 y1 y2 y3 y4 y5 y6 y7 y8 y9 y10 y11
      have hBf3:=hB1.trans ((hBo.trans (hBr3.mono hBos)).mono hs1)
      by_cases h5:0≤bc
      ·have HE:Hid (F=(5,(k:Int),bc)):=by unfold Hid; rw [← unhide HQ]; simp [h5]
       have RR:=RR3
       have hBf:=hBf3
       clear HQ RR3 CF3 CX3
       have r0:=blk_cell RR 0
       have r1:=blk_cell RR 1
       have q0:=blk_free RR 0
       have q1:=blk_free RR 1
       have lr:=lt_of_block RR
       simp at r0 r1
       go_wp2_with fail
       refine bodyPost_ret (v:=.tuple #[.agg #[.slice none 0 0,.slice none 0 0],.int .i64 5,.int .i64 (k:Int),.int .i64 bc]) (by simp [results,Tryz.results8,go_sem,r0,r1]) rfl ?_
       rw [unhide HE]
       exact ⟨none,0,0,none,0,0,rfl,fun h=>absurd h (by simp),(hBf.setCell (by simp) _).setCell (by simp) _⟩
      ·have HQ6:Hid ((if (if 0≤bh then ((6:Int),bh) else if 0≤bm then (7,bm) else (0,0)).1 ≠ 0 then ((if 0≤bh then ((6:Int),bh) else if 0≤bm then (7,bm) else (0,0)).1,(k:Int),(if 0≤bh then ((6:Int),bh) else if 0≤bm then (7,bm) else (0,0)).2) else Fm.bodies T nf ow (k+1) ((l2.map fun p=>p.1.m).drop (k+1)))=F):=by
        unfold Hid
        have:=unhide HQ
        rw [if_neg h5] at this
        exact this
       have m0:=blk_cell CX3 0
       have m1:=blk_cell CX3 1
       have m2:=blk_cell CX3 2
       have m3:=blk_cell CX3 3
       have m4:=blk_cell CX3 4
       have m5:=blk_cell CX3 5
       have m6:=blk_cell CX3 6
       have m7:=blk_cell CX3 7
       have m8:=blk_cell CX3 8
       have m9:=blk_cell CX3 9
       have m10:=blk_cell CX3 10
       have m11:=blk_cell CX3 11
       simp at m0 m1 m2 m3 m4 m5 m6 m7 m8 m9 m10 m11
       have f0:=blk_cell CF3 0
       have f1:=blk_cell CF3 1
       simp at f0 f1
       clear HQ
       go_wp2_with fail
       refine (unhide HCL _ hBr3).2.1.mono ?_
       rintro e w4 ⟨rfl,hb4⟩
       have hBr4:=hBr3.trans (hb4.mono hBr3.size)
       have CX4:=stay hb4 CX3
       have CF4:=stay hb4 CF3
       have RR4:=stay hb4 RR3
       clear hb4 hBr3 CX3 CF3 RR3 f0 f1 m0 m1 m2 m3 m4 m5 m6 m7 m8 m9 m10 m11 hBf3
       have hBf4:=hB1.trans ((hBo.trans (hBr4.mono hBos)).mono hs1)
       by_cases h6:0≤bh
       ·have HE:Hid (F=(6,(k:Int),bh)):=by unfold Hid; rw [← unhide HQ6]; simp [h6]
        have RR:=RR4
        have hBf:=hBf4
        clear HQ6 RR4 CF4 CX4
        have r0:=blk_cell RR 0
        have r1:=blk_cell RR 1
        have q0:=blk_free RR 0
        have q1:=blk_free RR 1
        have lr:=lt_of_block RR
        simp at r0 r1
        go_wp2_with fail
        refine bodyPost_ret (v:=.tuple #[.agg #[.slice none 0 0,.slice none 0 0],.int .i64 6,.int .i64 (k:Int),.int .i64 bh]) (by simp [results,Tryz.results8,go_sem,r0,r1]) rfl ?_
        rw [unhide HE]
        exact ⟨none,0,0,none,0,0,rfl,fun h=>absurd h (by simp),(hBf.setCell (by simp) _).setCell (by simp) _⟩
       ·have HQ7:Hid ((if (if 0≤bm then ((7:Int),bm) else (0,0)).1 ≠ 0 then ((if 0≤bm then ((7:Int),bm) else (0,0)).1,(k:Int),(if 0≤bm then ((7:Int),bm) else (0,0)).2) else Fm.bodies T nf ow (k+1) ((l2.map fun p=>p.1.m).drop (k+1)))=F):=by
         unfold Hid
         have:=unhide HQ6
         rw [if_neg h6] at this
         exact this
        have m0:=blk_cell CX4 0
        have m1:=blk_cell CX4 1
        have m2:=blk_cell CX4 2
        have m3:=blk_cell CX4 3
        have m4:=blk_cell CX4 4
        have m5:=blk_cell CX4 5
        have m6:=blk_cell CX4 6
        have m7:=blk_cell CX4 7
        have m8:=blk_cell CX4 8
        have m9:=blk_cell CX4 9
        have m10:=blk_cell CX4 10
        have m11:=blk_cell CX4 11
        simp at m0 m1 m2 m3 m4 m5 m6 m7 m8 m9 m10 m11
        have f0:=blk_cell CF4 0
        have f1:=blk_cell CF4 1
        simp at f0 f1
        clear HQ6
        go_wp2_with fail
        refine (unhide HCL _ hBr4).2.2.mono ?_
        rintro e w5 ⟨rfl,hb5⟩
        have hBr5:=hBr4.trans (hb5.mono hBr4.size)
        have CF5:=stay hb5 CF4
        have RR5:=stay hb5 RR4
        clear hb5 hBr4 CX4 CF4 RR4 f0 f1 m0 m1 m2 m3 m4 m5 m6 m7 m8 m9 m10 m11 hBf4
        by_cases h7:0≤bm
        ·have HE:Hid (F=(7,(k:Int),bm)):=by unfold Hid; rw [← unhide HQ7]; simp [h7]
         have RR:=RR5
         have hBf:=hB1.trans ((hBo.trans (hBr5.mono hBos)).mono hs1)
         clear HQ7 RR5 CF5
         have r0:=blk_cell RR 0
         have r1:=blk_cell RR 1
         have q0:=blk_free RR 0
         have q1:=blk_free RR 1
         have lr:=lt_of_block RR
         simp at r0 r1
         go_wp2_with fail
         refine bodyPost_ret (v:=.tuple #[.agg #[.slice none 0 0,.slice none 0 0],.int .i64 7,.int .i64 (k:Int),.int .i64 bm]) (by simp [results,Tryz.results8,go_sem,r0,r1]) rfl ?_
         rw [unhide HE]
         exact ⟨none,0,0,none,0,0,rfl,fun h=>absurd h (by simp),(hBf.setCell (by simp) _).setCell (by simp) _⟩
        ·have HG:Hid (Fm.bodies T nf ow (k+1) ((l2.map fun p=>p.1.m).drop (k+1))=F):=by unfold Hid; rw [← unhide HQ7]; simp [h7]
         have hBo5:=hBo.trans (hBr5.mono hBos)
         clear HQ7
         go_wp2
         go_roundw
         case rel=>exact ⟨k+1,by omega,by go_num,HG,hBo5,RR5,CF5⟩
         case measure=>simp [intOf]; omega
     ·have HE:Hid (F=(0,0,0)):=by unfold Hid; rw [← unhide HBB,List.drop_eq_nil_of_le (by simp; omega)]; rfl
      have kb:¬ (k:Int) < (l2.length:Int):=by omega
      have hBf:=hB1.trans (hBo.mono hs1)
      have r0:=blk_cell RR 0
      have r1:=blk_cell RR 1
      have q0:=blk_free RR 0
      have q1:=blk_free RR 1
      simp at r0 r1
      clear HBB
      go_wp2_with fail
      refine bodyPost_ret (v:=.tuple #[.agg #[.slice a1 l1.length c1,.slice a2 l2.length c2],.int .i64 0,.int .i64 0,.int .i64 0]) (by simp [results,Tryz.results8,go_sem,r0,r1]) rfl ?_
      rw [unhide HE]
      refine ⟨a1,l1.length,c1,a2,l2.length,c2,rfl,fun _=>⟨l1,unhide HL1,?_,l2,unhide HL2,?_⟩,(hBf.setCell (by simp) _).setCell (by simp) _⟩
      ·exact (((unhide HC1).kp (Kp.of_below (e:=none) hBo) (by decide) (by decide)).kp (Kp.set2 RR _ _) (by decide) (by decide)).mono (by simp)
      ·exact (((unhide HC2).kp (Kp.of_below (e:=none) hBo) (by decide) (by decide) (by decide) (by decide)).kp (Kp.set2 RR _ _) (by decide) (by decide) (by decide) (by decide)).mono (by simp)
 ·rw [if_pos h0]
  have h0':(C.1 != 0)=true:=by simp [h0]
  have H0:=hide h0
  clear h0
  go_enter Tryz.func8,Tryz.ntmps8
  go_wp2_with fail
  refine (unhide HCD _).mono ?_
  rintro e w1 ⟨a1,n1,c1,a2,n2,c2,rfl,_,hb1⟩
  have hB1:=hBw.trans (hb1.mono (by simp))
  have R1:=stay1 (stay hb1 R0') (.cells #[.slice a1 n1 c1,.slice a2 n2 c2] 28)
  have r0:=blk_cell R1 0
  have r1:=blk_cell R1 1
  have f0:=blk_free R1 0
  have f1:=blk_free R1 1
  have lr:=lt_of_block R1
  have hs1:=hB1.size
  simp at r0 r1 lr
  go_wp2_with fail
  refine bodyPost_ret (v:=.tuple #[.agg #[.slice none 0 0,.slice none 0 0],.int .i64 C.1,.int .i64 C.2,.int .i64 0]) (by simp [results,Tryz.results8,go_sem,r0,r1]) rfl ?_
  exact ⟨none,0,0,none,0,0,rfl,fun h=>absurd h (unhide H0),((hB1.alloc hs1 _).setCell (by simp) _).setCell (by simp) _⟩
end Go.Proofs.YteffpdofcgbokaaGreat
