/- a part of the proof -/
import Derived.Deep.RegionHeld
import Derived.Test.YtcefiamkoincoaaGreatPk11
set_option maxRecDepth 100000
set_option maxHeartbeats 40000000
set_option linter.unusedVariables false
set_option linter.unusedSimpArgs false
namespace Go.Proofs.YtcefiamkoincoaaGreat
open Go.RowKit
variable {ya:Option Addr}{yn yc:Nat}
theorem Xw {b size n:Nat}{e:TypeId}{a:Option Addr}{m c:Nat}{xs:List Value}{w:World} (h:w.ownsRow b e size (.slice a m c) n xs):n≤c:=by
 obtain⟨_,⟨h1,h2⟩|⟨g,cap,cur,h3,h4,h5,h6,_⟩⟩:=h
 ·omega
 ·simp only[Value.slice.injEq]at h3;omega
def Aep (q:Int):Int × Int:=if 0≤q then (4,q) else (0,0)
theorem Aeu {q:Int} (h:0≤q):Aep q=(4,q):=if_pos h
theorem Pu (fa1 fa2:Option Addr) (fl1 fc1 fc2:Nat) (lms:List (Rd.Mth × MthV)) (T:List Int) (tg cap bm:Nat) (w:World) (hT:T.length≤1000) (hTr:TreeIn w tg T)
  (hm6:lms.length≤6) (hms:MthsIn w bm (.slice fa2 lms.length fc2) lms) (hpl:∀ p∈lms,p.1.params.length≤1000) :
  Calls Tryz.prog 74 #[.agg #[.slice fa1 fl1 fc1,.slice fa2 lms.length fc2],.agg #[.slice (some ⟨tg,0,none⟩) T.length cap,.slice ya yn yc]] w fun e w' =>
   e=.returned (.agg #[.int .i64 (Aep (Ab1 T (lms.map Prod.fst) 0 (lms.map Prod.fst))).1,.int .i64 (Aep (Ab1 T (lms.map Prod.fst) 0 (lms.map Prod.fst))).2,.int .i64 0])∧Below w.heap.size w w':=by
 generalize hq:Ab1 T (lms.map Prod.fst) 0 (lms.map Prod.fst)=q;have HQ:Hid (Ab1 T (lms.map Prod.fst) 0 ((lms.map Prod.fst).drop 0)=q):=hq;clear hq;have hB0:=A8 w (O1 fa1 fl1 fc1 fa2 lms.length fc2) (O2 (some ⟨tg,0,none⟩) T.length cap ya yn yc) (O8 0 0 0);have C0:=Em w (O1 fa1 fl1 fc1 fa2 lms.length fc2) (O2 (some ⟨tg,0,none⟩) T.length cap ya yn yc) (O8 0 0 0);go_enter Tryz.func74,Tryz.ntmps74;go_wp2
 go_loopw [10] (fun v wr=>∃ k:Nat,k≤lms.length∧v=.int .i64 (k:Int)∧Hid (Ab1 T (lms.map Prod.fst) k ((lms.map Prod.fst).drop k)=q)∧Below w.heap.size w wr∧wr.heap[w.heap.size]?=some (O1 fa1 fl1 fc1 fa2 lms.length fc2) ∧
   wr.heap[w.heap.size+1]?=some (O2 (some ⟨tg,0,none⟩) T.length cap ya yn yc)∧wr.heap[w.heap.size+1+1]?=some (O8 0 0 0))
  (fun v _=>lms.length-(intOf v).toNat)
 case atStart=>exact⟨0,by omega,rfl,HQ,hB0,C0.1,C0.2.1,C0.2.2⟩
 case round =>
  clear HQ hB0 C0;obtain⟨k,hk,rfl,HQ,hB,CF,CT,CR⟩:=hrel;have hBs:=hB.size;by_cases hkn:k<lms.length
  ·have hmr:MthsIn wr bm (.slice fa2 lms.length fc2) lms:=hms.kp (Kp.of_below (e:=none) hB) (by decide) (by decide) (by decide) (by decide) (by decide);have kc:=Xw hmr.1;obtain⟨o,g,hg,hglt,hrow,his⟩:=hmr.mth hkn;replace hrow:=Hy hrow;have hpo:=hpl _ (List.getElem_mem hkn);have hd:(lms.map Prod.fst).drop k=lms[k].1::(lms.map Prod.fst).drop (k+1):=by
    rw[List.drop_eq_getElem_cons (by simpa using hkn)]
    simp
   have hr:=Aa HQ;rw[hd,Ab1]at hr;unfold Ad9 at hr;have hHM:=fun w' (h:Below wr.heap.size wr w')=>Pi (ya:=ya) (yn:=yn) (yc:=yc) T (some ⟨tg,0,none⟩) cap bm o lms[k].1 w' (his.below h) hpo;have hBR:=fun w' (h:Below wr.heap.size wr w')=>Lo (ya:=ya) (yn:=yn) (yc:=yc) fa1 fa2 fl1 fc1 fc2 lms T tg cap bm o lms[k].1 w' (his.below h) hT (hTr.below (hB.trans (h.mono hBs))) hm6 (hmr.kp (Kp.of_below (e:=none) h) (by decide) (by decide) (by decide) (by decide) (by decide)) hpo hpl;have hlen:((lms.map Prod.fst).take k).length=k:=by simp;omega
   have hTW:=fun w' (h:Below wr.heap.size wr w')=>Sc ((lms.map Prod.fst).take k) fa2 fc2 o lms[k].1 w' his.cl his.nm (by omega) (by
    intro w'' h'' j hj;have hj':j<lms.length:=by omega
    have hb'':=h.trans (h''.mono h.size);obtain⟨o',g',hg',hglt',hrow',his'⟩:=(hmr.kp (Kp.of_below (e:=none) hb'') (by decide) (by decide) (by decide) (by decide) (by decide)).mth hj';refine⟨o',g',hg',hglt',hrow',?_,?_⟩
    ·rw[his'.cl];simp
    ·rw[his'.nm];simp)
   rw[hlen]at hTW;clear his hmr hd hlen;generalize Adl T lms[k].1=A at *;generalize Ads ((lms.map Prod.fst).take k) lms[k].1=B at *;generalize Acx T (lms.map Prod.fst) lms[k].1=C at *;obtain⟨cl,nm,pa,pl,pc,r1,r2,lo,st,ca,cn,cc,ha,hl,hc,ma,ml,mc⟩:=o;simp only[PM.val]at hrow hHM hTW hBR;obtain⟨y0,y1,y2,y3,y4,y5,y6,y7,y8,y9⟩:=hrow;subst hg;have HHM:=Ac hHM;have HTW:=Ac hTW;have HBR:=Ac hBR;clear hHM hTW hBR HQ;have hX1:Below wr.heap.size wr (wr.alloc (O20 cl nm pa pl pc r1 r2 lo st ca cn cc ha hl hc ma ml mc)):=QN _;have CM1:=Ad wr (O20 cl nm pa pl pc r1 r2 lo st ca cn cc ha hl hc ma ml mc);have CF1:=Aj CF (O20 cl nm pa pl pc r1 r2 lo st ca cn cc ha hl hc ma ml mc);have CT1:=Aj CT (O20 cl nm pa pl pc r1 r2 lo st ca cn cc ha hl hc ma ml mc);have f0:(wr.alloc (O20 cl nm pa pl pc r1 r2 lo st ca cn cc ha hl hc ma ml mc)).cell? ⟨w.heap.size,0,none⟩=some (.slice fa1 fl1 fc1):=(Ab CF1 0).trans rfl;have f1:(wr.alloc (O20 cl nm pa pl pc r1 r2 lo st ca cn cc ha hl hc ma ml mc)).cell? ⟨w.heap.size,1,none⟩=some (.slice (some ⟨g,0,none⟩) lms.length fc2):=(Ab CF1 1).trans rfl;have t0:(wr.alloc (O20 cl nm pa pl pc r1 r2 lo st ca cn cc ha hl hc ma ml mc)).cell? ⟨w.heap.size+1,0,none⟩=some (.slice (some ⟨tg,0,none⟩) T.length cap):=(Ab CT1 0).trans rfl;have t1:(wr.alloc (O20 cl nm pa pl pc r1 r2 lo st ca cn cc ha hl hc ma ml mc)).cell? ⟨w.heap.size+1,1,none⟩=some (.slice ya yn yc):=(Ab CT1 1).trans rfl;have m0:(wr.alloc (O20 cl nm pa pl pc r1 r2 lo st ca cn cc ha hl hc ma ml mc)).cell? ⟨wr.heap.size,0,none⟩=some (.int .i64 cl):=(Ab CM1 0).trans rfl;have m1:(wr.alloc (O20 cl nm pa pl pc r1 r2 lo st ca cn cc ha hl hc ma ml mc)).cell? ⟨wr.heap.size,1,none⟩=some (.int .i64 nm):=(Ab CM1 1).trans rfl;have m2:(wr.alloc (O20 cl nm pa pl pc r1 r2 lo st ca cn cc ha hl hc ma ml mc)).cell? ⟨wr.heap.size,2,none⟩=some (.slice pa pl pc):=(Ab CM1 2).trans rfl;have m3:(wr.alloc (O20 cl nm pa pl pc r1 r2 lo st ca cn cc ha hl hc ma ml mc)).cell? ⟨wr.heap.size,3,none⟩=some (.int .i64 r1):=(Ab CM1 3).trans rfl;have m4:(wr.alloc (O20 cl nm pa pl pc r1 r2 lo st ca cn cc ha hl hc ma ml mc)).cell? ⟨wr.heap.size,4,none⟩=some (.int .i64 r2):=(Ab CM1 4).trans rfl;have m5:(wr.alloc (O20 cl nm pa pl pc r1 r2 lo st ca cn cc ha hl hc ma ml mc)).cell? ⟨wr.heap.size,5,none⟩=some (.int .i64 lo):=(Ab CM1 5).trans rfl;have m6:(wr.alloc (O20 cl nm pa pl pc r1 r2 lo st ca cn cc ha hl hc ma ml mc)).cell? ⟨wr.heap.size,6,none⟩=some (.int .i64 st):=(Ab CM1 6).trans rfl;have m7:(wr.alloc (O20 cl nm pa pl pc r1 r2 lo st ca cn cc ha hl hc ma ml mc)).cell? ⟨wr.heap.size,7,none⟩=some (.slice ca cn cc):=(Ab CM1 7).trans rfl;have m8:(wr.alloc (O20 cl nm pa pl pc r1 r2 lo st ca cn cc ha hl hc ma ml mc)).cell? ⟨wr.heap.size,8,none⟩=some (.slice ha hl hc):=(Ab CM1 8).trans rfl;have m9:(wr.alloc (O20 cl nm pa pl pc r1 r2 lo st ca cn cc ha hl hc ma ml mc)).cell? ⟨wr.heap.size,9,none⟩=some (.slice ma ml mc):=(Ab CM1 9).trans rfl;have lF:w.heap.size<(wr.alloc (O20 cl nm pa pl pc r1 r2 lo st ca cn cc ha hl hc ma ml mc)).heap.size:=lt_of_block CF1;have lT:w.heap.size+1<(wr.alloc (O20 cl nm pa pl pc r1 r2 lo st ca cn cc ha hl hc ma ml mc)).heap.size:=lt_of_block CT1;have lM:wr.heap.size<(wr.alloc (O20 cl nm pa pl pc r1 r2 lo st ca cn cc ha hl hc ma ml mc)).heap.size:=lt_of_block CM1;have kb:(k:Int)<(lms.length:Int):=by omega
   have kc':(k:Int)≤(fc2:Int):=by omega
   have x0:=Ab CF 1;simp at x0;cases A with
   | false =>
    have HE:Hid (q=(k:Int)):=by unfold Hid;rw[← hr];simp
    clear hr;go_wp2;refine wp_region_held_drew (S:=(fun w'=>w'.cell? ⟨w.heap.size,0,none⟩=some (.slice fa1 fl1 fc1)∧w'.cell? ⟨w.heap.size,1,none⟩=some (.slice (some ⟨g,0,none⟩) lms.length fc2)∧w'.cell? ⟨w.heap.size+1,0,none⟩=some (.slice (some ⟨tg,0,none⟩) T.length cap)∧w'.cell? ⟨w.heap.size+1,1,none⟩=some (.slice ya yn yc)∧w'.cell? ⟨wr.heap.size,0,none⟩=some (.int .i64 cl)∧w'.cell? ⟨wr.heap.size,1,none⟩=some (.int .i64 nm)∧w'.cell? ⟨wr.heap.size,2,none⟩=some (.slice pa pl pc)∧w'.cell? ⟨wr.heap.size,3,none⟩=some (.int .i64 r1)∧w'.cell? ⟨wr.heap.size,4,none⟩=some (.int .i64 r2)∧w'.cell? ⟨wr.heap.size,5,none⟩=some (.int .i64 lo)∧w'.cell? ⟨wr.heap.size,6,none⟩=some (.int .i64 st)∧w'.cell? ⟨wr.heap.size,7,none⟩=some (.slice ca cn cc)∧w'.cell? ⟨wr.heap.size,8,none⟩=some (.slice ha hl hc)∧w'.cell? ⟨wr.heap.size,9,none⟩=some (.slice ma ml mc))) (by kernel_rfl) ⟨f0,f1,t0,t1,m0,m1,m2,m3,m4,m5,m6,m7,m8,m9⟩ (fun hHeld=>?_);refine wpAnyH_take (i:=0) (oi:=⟨_,_,_,_,_,_⟩) (v:=.agg #[.slice (some ⟨tg,0,none⟩) T.length cap,.slice ya yn yc]) rfl (by kernel_rfl) (by kernel_rfl) (by kernel_rfl) (fun _ _ _ h=>h) (Or.inl ⟨by rfl,?_⟩) hHeld ?_
    ·intro w' hSw
     try dsimp only at hSw
     go_simp
    try simp only[QX]
    refine wpAnyH_take (i:=1) (oi:=⟨_,_,_,_,_,_⟩) (v:=.agg #[.int .i64 cl,.int .i64 nm,.slice pa pl pc,.int .i64 r1,.int .i64 r2,.int .i64 lo,.int .i64 st,.slice ca cn cc,.slice ha hl hc,.slice ma ml mc]) rfl (by kernel_rfl) (by kernel_rfl) (by kernel_rfl) (fun _ _ _ h=>h) (Or.inl ⟨by rfl,?_⟩) hHeld ?_
    ·intro w' hSw
     try dsimp only at hSw
     go_simp
    try simp only[QX]
    refine wpAnyH_ready (rs:=[2]) (by kernel_rfl) (by simp) ?_;refine AllReadyH.cons (o:=⟨_,_,_,_,_,_⟩) rfl (fun K hK=>?_) AllReadyH.nil
    go_simp
    refine(Aa HHM _ hX1.drew).mono ?_;rintro e w7 ⟨rfl,hb7⟩
    try dsimp only
    clear hHeld;refine hK.out _ _ ⟨QC hb7 lF f0,QC hb7 lF f1,QC hb7 lT t0,QC hb7 lT t1,QC hb7 lM m0,QC hb7 lM m1,QC hb7 lM m2,QC hb7 lM m3,QC hb7 lM m4,QC hb7 lM m5,QC hb7 lM m6,QC hb7 lM m7,QC hb7 lM m8,QC hb7 lM m9⟩ (fun hHeld=>?_);clear hK K
    try simp only[QX]
    refine wpAnyH_take (i:=3) (oi:=⟨_,_,_,_,_,_⟩) (v:=.bool true) rfl (by kernel_rfl) (by kernel_rfl) (by kernel_rfl) (fun _ _ _ h=>h) (Or.inl ⟨by rfl,?_⟩) hHeld ?_
    ·intro w' hSw
     try dsimp only at hSw
     go_simp
    try simp only[QX]
    refine wpAnyH_take (i:=4) (oi:=⟨_,_,_,_,_,_⟩) (v:=.bool true) rfl (by kernel_rfl) (by kernel_rfl) (by kernel_rfl) (fun _ _ _ h=>h) (Or.inl ⟨by rfl,?_⟩) hHeld ?_
    ·intro w' hSw
     try dsimp only at hSw
     go_simp
    try simp only[QX]
    refine wpAnyH_take (i:=5) (oi:=⟨_,_,_,_,_,_⟩) (v:=undef) rfl (by kernel_rfl) (by kernel_rfl) (by kernel_rfl) (fun _ _ _ h=>h) (Or.inr ⟨by rfl,rfl⟩) hHeld ?_
    try simp only[QX]
    refine wpAnyH_take (i:=6) (oi:=⟨_,_,_,_,_,_⟩) (v:=undef) rfl (by kernel_rfl) (by kernel_rfl) (by kernel_rfl) (fun _ _ _ h=>h) (Or.inr ⟨by rfl,rfl⟩) hHeld ?_
    try simp only[QX]
    refine wpAnyH_take (i:=7) (oi:=⟨_,_,_,_,_,_⟩) (v:=undef) rfl (by kernel_rfl) (by kernel_rfl) (by kernel_rfl) (fun _ _ _ h=>h) (Or.inr ⟨by rfl,rfl⟩) hHeld ?_
    try simp only[QX]
    refine wpAnyH_take (i:=8) (oi:=⟨_,_,_,_,_,_⟩) (v:=undef) rfl (by kernel_rfl) (by kernel_rfl) (by kernel_rfl) (fun _ _ _ h=>h) (Or.inr ⟨by rfl,rfl⟩) hHeld ?_
    try simp only[QX]
    refine wpAnyH_take (i:=9) (oi:=⟨_,_,_,_,_,_⟩) (v:=undef) rfl (by kernel_rfl) (by kernel_rfl) (by kernel_rfl) (fun _ _ _ h=>h) (Or.inr ⟨by rfl,rfl⟩) hHeld ?_
    try simp only[QX]
    refine wpAnyH_take (i:=10) (oi:=⟨_,_,_,_,_,_⟩) (v:=undef) rfl (by kernel_rfl) (by kernel_rfl) (by kernel_rfl) (fun _ _ _ h=>h) (Or.inr ⟨by rfl,rfl⟩) hHeld ?_
    try simp only[QX]
    refine wpAnyH_take (i:=11) (oi:=⟨_,_,_,_,_,_⟩) (v:=.bool true) rfl (by kernel_rfl) (by kernel_rfl) (by kernel_rfl) (fun _ _ _ h=>h) (Or.inl ⟨by rfl,?_⟩) hHeld ?_
    ·intro w' hSw
     try dsimp only at hSw
     go_simp
    try simp only[QX]
    refine wpAnyH_take (i:=12) (oi:=⟨_,_,_,_,_,_⟩) (v:=.bool true) rfl (by kernel_rfl) (by kernel_rfl) (by kernel_rfl) (fun _ _ _ h=>h) (Or.inl ⟨by rfl,?_⟩) hHeld ?_
    ·intro w' hSw
     try dsimp only at hSw
     go_simp
    try simp only[QX]
    refine wpAnyH_take (i:=13) (oi:=⟨_,_,_,_,_,_⟩) (v:=undef) rfl (by kernel_rfl) (by kernel_rfl) (by kernel_rfl) (fun _ _ _ h=>h) (Or.inr ⟨by rfl,rfl⟩) hHeld ?_
    try simp only[QX]
    refine wpAnyH_take (i:=14) (oi:=⟨_,_,_,_,_,_⟩) (v:=undef) rfl (by kernel_rfl) (by kernel_rfl) (by kernel_rfl) (fun _ _ _ h=>h) (Or.inr ⟨by rfl,rfl⟩) hHeld ?_
    try simp only[QX]
    refine wpAnyH_take (i:=15) (oi:=⟨_,_,_,_,_,_⟩) (v:=undef) rfl (by kernel_rfl) (by kernel_rfl) (by kernel_rfl) (fun _ _ _ h=>h) (Or.inr ⟨by rfl,rfl⟩) hHeld ?_
    try simp only[QX]
    refine wpAnyH_take (i:=16) (oi:=⟨_,_,_,_,_,_⟩) (v:=undef) rfl (by kernel_rfl) (by kernel_rfl) (by kernel_rfl) (fun _ _ _ h=>h) (Or.inr ⟨by rfl,rfl⟩) hHeld ?_
    try simp only[QX]
    refine wpAnyH_take (i:=17) (oi:=⟨_,_,_,_,_,_⟩) (v:=.bool true) rfl (by kernel_rfl) (by kernel_rfl) (by kernel_rfl) (fun _ _ _ h=>h) (Or.inl ⟨by rfl,?_⟩) hHeld ?_
    ·intro w' hSw
     try dsimp only at hSw
     go_simp
    try simp only[QX]
    refine wpAnyH_done (by kernel_rfl) ?_ _;have hX:=(hX1.drew).trans (hb7.mono (Nat.le_of_lt lM));have hBn:=hB.trans (hX.mono hBs);have CFn:=stay hX CF;have CTn:=stay hX CT;have CRn:=stay hX CR;clear hHeld f0 f1 t0 t1 m0 m1 m2 m3 m4 m5 m6 m7 m8 m9;obtain⟨z0,z1,z2⟩:=cl3 CRn;obtain⟨q0,q1,q2⟩:=fr3 CRn;have lR:=lt_of_block CRn;simp at z0 z1 z2;go_wp2_with fail
    refine bodyPost_ret (v:=.agg #[.int .i64 4,.int .i64 (k:Int),.int .i64 0]) (by simp[results,Tryz.results74,go_sem,z0,z1,z2]) rfl ?_;rw[Aa HE,Aeu (by omega)];exact⟨rfl,((hBn.setCell (by simp;omega) _).setCell (by simp;omega) _).setCell (by simp;omega) _⟩
   | true =>
    cases B with
    | true =>
     have HE:Hid (q=(k:Int)):=by unfold Hid;rw[← hr];simp
     clear hr;go_wp2;refine wp_region_held_drew (S:=(fun w'=>w'.cell? ⟨w.heap.size,0,none⟩=some (.slice fa1 fl1 fc1)∧w'.cell? ⟨w.heap.size,1,none⟩=some (.slice (some ⟨g,0,none⟩) lms.length fc2)∧w'.cell? ⟨w.heap.size+1,0,none⟩=some (.slice (some ⟨tg,0,none⟩) T.length cap)∧w'.cell? ⟨w.heap.size+1,1,none⟩=some (.slice ya yn yc)∧w'.cell? ⟨wr.heap.size,0,none⟩=some (.int .i64 cl)∧w'.cell? ⟨wr.heap.size,1,none⟩=some (.int .i64 nm)∧w'.cell? ⟨wr.heap.size,2,none⟩=some (.slice pa pl pc)∧w'.cell? ⟨wr.heap.size,3,none⟩=some (.int .i64 r1)∧w'.cell? ⟨wr.heap.size,4,none⟩=some (.int .i64 r2)∧w'.cell? ⟨wr.heap.size,5,none⟩=some (.int .i64 lo)∧w'.cell? ⟨wr.heap.size,6,none⟩=some (.int .i64 st)∧w'.cell? ⟨wr.heap.size,7,none⟩=some (.slice ca cn cc)∧w'.cell? ⟨wr.heap.size,8,none⟩=some (.slice ha hl hc)∧w'.cell? ⟨wr.heap.size,9,none⟩=some (.slice ma ml mc))) (by kernel_rfl) ⟨f0,f1,t0,t1,m0,m1,m2,m3,m4,m5,m6,m7,m8,m9⟩ (fun hHeld=>?_);refine wpAnyH_take (i:=0) (oi:=⟨_,_,_,_,_,_⟩) (v:=.agg #[.slice (some ⟨tg,0,none⟩) T.length cap,.slice ya yn yc]) rfl (by kernel_rfl) (by kernel_rfl) (by kernel_rfl) (fun _ _ _ h=>h) (Or.inl ⟨by rfl,?_⟩) hHeld ?_
     ·intro w' hSw
      try dsimp only at hSw
      go_simp
     try simp only[QX]
     refine wpAnyH_take (i:=1) (oi:=⟨_,_,_,_,_,_⟩) (v:=.agg #[.int .i64 cl,.int .i64 nm,.slice pa pl pc,.int .i64 r1,.int .i64 r2,.int .i64 lo,.int .i64 st,.slice ca cn cc,.slice ha hl hc,.slice ma ml mc]) rfl (by kernel_rfl) (by kernel_rfl) (by kernel_rfl) (fun _ _ _ h=>h) (Or.inl ⟨by rfl,?_⟩) hHeld ?_
     ·intro w' hSw
      try dsimp only at hSw
      go_simp
     try simp only[QX]
     refine wpAnyH_ready (rs:=[2]) (by kernel_rfl) (by simp) ?_;refine AllReadyH.cons (o:=⟨_,_,_,_,_,_⟩) rfl (fun K hK=>?_) AllReadyH.nil
     go_simp
     refine(Aa HHM _ hX1.drew).mono ?_;rintro e w7 ⟨rfl,hb7⟩
     try dsimp only
     clear hHeld;refine hK.out _ _ ⟨QC hb7 lF f0,QC hb7 lF f1,QC hb7 lT t0,QC hb7 lT t1,QC hb7 lM m0,QC hb7 lM m1,QC hb7 lM m2,QC hb7 lM m3,QC hb7 lM m4,QC hb7 lM m5,QC hb7 lM m6,QC hb7 lM m7,QC hb7 lM m8,QC hb7 lM m9⟩ (fun hHeld=>?_);clear hK K
     try simp only[QX]
     refine wpAnyH_take (i:=3) (oi:=⟨_,_,_,_,_,_⟩) (v:=.bool false) rfl (by kernel_rfl) (by kernel_rfl) (by kernel_rfl) (fun _ _ _ h=>h) (Or.inl ⟨by rfl,?_⟩) hHeld ?_
     ·intro w' hSw
      try dsimp only at hSw
      go_simp
     try simp only[QX]
     refine wpAnyH_take (i:=4) (oi:=⟨_,_,_,_,_,_⟩) (v:=.bool false) rfl (by kernel_rfl) (by kernel_rfl) (by kernel_rfl) (fun _ _ _ h=>h) (Or.inl ⟨by rfl,?_⟩) hHeld ?_
     ·intro w' hSw
      try dsimp only at hSw
      go_simp
     try simp only[QX]
     refine wpAnyH_take (i:=5) (oi:=⟨_,_,_,_,_,_⟩) (v:=.pointer (some ⟨w.heap.size,1,none⟩)) rfl (by kernel_rfl) (by kernel_rfl) (by kernel_rfl) (fun _ _ _ h=>h) (Or.inl ⟨by rfl,?_⟩) hHeld ?_
     ·intro w' hSw
      try dsimp only at hSw
      go_simp
     try simp only[QX]
     refine wpAnyH_take (i:=6) (oi:=⟨_,_,_,_,_,_⟩) (v:=.slice (some ⟨g,0,none⟩) lms.length fc2) rfl (by kernel_rfl) (by kernel_rfl) (by kernel_rfl) (fun _ _ _ h=>h) (Or.inl ⟨by rfl,?_⟩) hHeld ?_
     ·intro w' hSw
      try dsimp only at hSw
      go_simp
     try simp only[QX]
     refine wpAnyH_take (i:=7) (oi:=⟨_,_,_,_,_,_⟩) (v:=.int .i64 (k:Int)) rfl (by kernel_rfl) (by kernel_rfl) (by kernel_rfl) (fun _ _ _ h=>h) (Or.inl ⟨by rfl,?_⟩) hHeld ?_
     ·intro w' hSw
      try dsimp only at hSw
      go_simp
     try simp only[QX]
     refine wpAnyH_take (i:=8) (oi:=⟨_,_,_,_,_,_⟩) (v:=.slice (some ⟨g,0,none⟩) k fc2) rfl (by kernel_rfl) (by kernel_rfl) (by kernel_rfl) (fun _ _ _ h=>h) (Or.inl ⟨by rfl,?_⟩) hHeld ?_
     ·intro w' hSw
      try dsimp only at hSw
      go_simp
     try simp only[QX]
     refine wpAnyH_take (i:=9) (oi:=⟨_,_,_,_,_,_⟩) (v:=.agg #[.int .i64 cl,.int .i64 nm,.slice pa pl pc,.int .i64 r1,.int .i64 r2,.int .i64 lo,.int .i64 st,.slice ca cn cc,.slice ha hl hc,.slice ma ml mc]) rfl (by kernel_rfl) (by kernel_rfl) (by kernel_rfl) (fun _ _ _ h=>h) (Or.inl ⟨by rfl,?_⟩) hHeld ?_
     ·intro w' hSw
      try dsimp only at hSw
      go_simp
     try simp only[QX]
     refine wpAnyH_ready (rs:=[10]) (by kernel_rfl) (by simp) ?_;refine AllReadyH.cons (o:=⟨_,_,_,_,_,_⟩) rfl (fun K hK=>?_) AllReadyH.nil
     go_simp
     refine(Aa HTW _ (hX1.drew.trans (hb7.mono (Nat.le_of_lt lM)))).mono ?_;rintro e w8 ⟨rfl,hb8⟩
     try dsimp only
     clear hHeld;refine hK.out _ _ ⟨QC hb8 (QL hb7 lF) (QC hb7 lF f0),QC hb8 (QL hb7 lF) (QC hb7 lF f1),QC hb8 (QL hb7 lT) (QC hb7 lT t0),QC hb8 (QL hb7 lT) (QC hb7 lT t1),QC hb8 (QL hb7 lM) (QC hb7 lM m0),QC hb8 (QL hb7 lM) (QC hb7 lM m1),QC hb8 (QL hb7 lM) (QC hb7 lM m2),QC hb8 (QL hb7 lM) (QC hb7 lM m3),QC hb8 (QL hb7 lM) (QC hb7 lM m4),QC hb8 (QL hb7 lM) (QC hb7 lM m5),QC hb8 (QL hb7 lM) (QC hb7 lM m6),QC hb8 (QL hb7 lM) (QC hb7 lM m7),QC hb8 (QL hb7 lM) (QC hb7 lM m8),QC hb8 (QL hb7 lM) (QC hb7 lM m9)⟩ (fun hHeld=>?_);clear hK K
     try simp only[QX]
     refine wpAnyH_take (i:=11) (oi:=⟨_,_,_,_,_,_⟩) (v:=.bool true) rfl (by kernel_rfl) (by kernel_rfl) (by kernel_rfl) (fun _ _ _ h=>h) (Or.inl ⟨by rfl,?_⟩) hHeld ?_
     ·intro w' hSw
      try dsimp only at hSw
      go_simp
     try simp only[QX]
     refine wpAnyH_take (i:=12) (oi:=⟨_,_,_,_,_,_⟩) (v:=.bool true) rfl (by kernel_rfl) (by kernel_rfl) (by kernel_rfl) (fun _ _ _ h=>h) (Or.inl ⟨by rfl,?_⟩) hHeld ?_
     ·intro w' hSw
      try dsimp only at hSw
      go_simp
     try simp only[QX]
     refine wpAnyH_take (i:=13) (oi:=⟨_,_,_,_,_,_⟩) (v:=undef) rfl (by kernel_rfl) (by kernel_rfl) (by kernel_rfl) (fun _ _ _ h=>h) (Or.inr ⟨by rfl,rfl⟩) hHeld ?_
     try simp only[QX]
     refine wpAnyH_take (i:=14) (oi:=⟨_,_,_,_,_,_⟩) (v:=undef) rfl (by kernel_rfl) (by kernel_rfl) (by kernel_rfl) (fun _ _ _ h=>h) (Or.inr ⟨by rfl,rfl⟩) hHeld ?_
     try simp only[QX]
     refine wpAnyH_take (i:=15) (oi:=⟨_,_,_,_,_,_⟩) (v:=undef) rfl (by kernel_rfl) (by kernel_rfl) (by kernel_rfl) (fun _ _ _ h=>h) (Or.inr ⟨by rfl,rfl⟩) hHeld ?_
     try simp only[QX]
     refine wpAnyH_take (i:=16) (oi:=⟨_,_,_,_,_,_⟩) (v:=undef) rfl (by kernel_rfl) (by kernel_rfl) (by kernel_rfl) (fun _ _ _ h=>h) (Or.inr ⟨by rfl,rfl⟩) hHeld ?_
     try simp only[QX]
     refine wpAnyH_take (i:=17) (oi:=⟨_,_,_,_,_,_⟩) (v:=.bool true) rfl (by kernel_rfl) (by kernel_rfl) (by kernel_rfl) (fun _ _ _ h=>h) (Or.inl ⟨by rfl,?_⟩) hHeld ?_
     ·intro w' hSw
      try dsimp only at hSw
      go_simp
     try simp only[QX]
     refine wpAnyH_done (by kernel_rfl) ?_ _;have hX:=((hX1.drew).trans (hb7.mono (Nat.le_of_lt lM))).trans (hb8.mono (Nat.le_trans (Nat.le_of_lt lM) hb7.size));have hBn:=hB.trans (hX.mono hBs);have CFn:=stay hX CF;have CTn:=stay hX CT;have CRn:=stay hX CR;clear hHeld f0 f1 t0 t1 m0 m1 m2 m3 m4 m5 m6 m7 m8 m9;obtain⟨z0,z1,z2⟩:=cl3 CRn;obtain⟨q0,q1,q2⟩:=fr3 CRn;have lR:=lt_of_block CRn;simp at z0 z1 z2;go_wp2_with fail
     refine bodyPost_ret (v:=.agg #[.int .i64 4,.int .i64 (k:Int),.int .i64 0]) (by simp[results,Tryz.results74,go_sem,z0,z1,z2]) rfl ?_;rw[Aa HE,Aeu (by omega)];exact⟨rfl,((hBn.setCell (by simp;omega) _).setCell (by simp;omega) _).setCell (by simp;omega) _⟩
    | false =>
     cases C with
     | true =>
      have HE:Hid (q=(k:Int)):=by unfold Hid;rw[← hr];simp
      clear hr;go_wp2;refine wp_region_held_drew (S:=(fun w'=>w'.cell? ⟨w.heap.size,0,none⟩=some (.slice fa1 fl1 fc1)∧w'.cell? ⟨w.heap.size,1,none⟩=some (.slice (some ⟨g,0,none⟩) lms.length fc2)∧w'.cell? ⟨w.heap.size+1,0,none⟩=some (.slice (some ⟨tg,0,none⟩) T.length cap)∧w'.cell? ⟨w.heap.size+1,1,none⟩=some (.slice ya yn yc)∧w'.cell? ⟨wr.heap.size,0,none⟩=some (.int .i64 cl)∧w'.cell? ⟨wr.heap.size,1,none⟩=some (.int .i64 nm)∧w'.cell? ⟨wr.heap.size,2,none⟩=some (.slice pa pl pc)∧w'.cell? ⟨wr.heap.size,3,none⟩=some (.int .i64 r1)∧w'.cell? ⟨wr.heap.size,4,none⟩=some (.int .i64 r2)∧w'.cell? ⟨wr.heap.size,5,none⟩=some (.int .i64 lo)∧w'.cell? ⟨wr.heap.size,6,none⟩=some (.int .i64 st)∧w'.cell? ⟨wr.heap.size,7,none⟩=some (.slice ca cn cc)∧w'.cell? ⟨wr.heap.size,8,none⟩=some (.slice ha hl hc)∧w'.cell? ⟨wr.heap.size,9,none⟩=some (.slice ma ml mc))) (by kernel_rfl) ⟨f0,f1,t0,t1,m0,m1,m2,m3,m4,m5,m6,m7,m8,m9⟩ (fun hHeld=>?_);refine wpAnyH_take (i:=0) (oi:=⟨_,_,_,_,_,_⟩) (v:=.agg #[.slice (some ⟨tg,0,none⟩) T.length cap,.slice ya yn yc]) rfl (by kernel_rfl) (by kernel_rfl) (by kernel_rfl) (fun _ _ _ h=>h) (Or.inl ⟨by rfl,?_⟩) hHeld ?_
      ·intro w' hSw
       try dsimp only at hSw
       go_simp
      try simp only[QX]
      refine wpAnyH_take (i:=1) (oi:=⟨_,_,_,_,_,_⟩) (v:=.agg #[.int .i64 cl,.int .i64 nm,.slice pa pl pc,.int .i64 r1,.int .i64 r2,.int .i64 lo,.int .i64 st,.slice ca cn cc,.slice ha hl hc,.slice ma ml mc]) rfl (by kernel_rfl) (by kernel_rfl) (by kernel_rfl) (fun _ _ _ h=>h) (Or.inl ⟨by rfl,?_⟩) hHeld ?_
      ·intro w' hSw
       try dsimp only at hSw
       go_simp
      try simp only[QX]
      refine wpAnyH_ready (rs:=[2]) (by kernel_rfl) (by simp) ?_;refine AllReadyH.cons (o:=⟨_,_,_,_,_,_⟩) rfl (fun K hK=>?_) AllReadyH.nil
      go_simp
      refine(Aa HHM _ hX1.drew).mono ?_;rintro e w7 ⟨rfl,hb7⟩
      try dsimp only
      clear hHeld;refine hK.out _ _ ⟨QC hb7 lF f0,QC hb7 lF f1,QC hb7 lT t0,QC hb7 lT t1,QC hb7 lM m0,QC hb7 lM m1,QC hb7 lM m2,QC hb7 lM m3,QC hb7 lM m4,QC hb7 lM m5,QC hb7 lM m6,QC hb7 lM m7,QC hb7 lM m8,QC hb7 lM m9⟩ (fun hHeld=>?_);clear hK K
      try simp only[QX]
      refine wpAnyH_take (i:=3) (oi:=⟨_,_,_,_,_,_⟩) (v:=.bool false) rfl (by kernel_rfl) (by kernel_rfl) (by kernel_rfl) (fun _ _ _ h=>h) (Or.inl ⟨by rfl,?_⟩) hHeld ?_
      ·intro w' hSw
       try dsimp only at hSw
       go_simp
      try simp only[QX]
      refine wpAnyH_take (i:=4) (oi:=⟨_,_,_,_,_,_⟩) (v:=.bool false) rfl (by kernel_rfl) (by kernel_rfl) (by kernel_rfl) (fun _ _ _ h=>h) (Or.inl ⟨by rfl,?_⟩) hHeld ?_
      ·intro w' hSw
       try dsimp only at hSw
       go_simp
      try simp only[QX]
      refine wpAnyH_take (i:=5) (oi:=⟨_,_,_,_,_,_⟩) (v:=.pointer (some ⟨w.heap.size,1,none⟩)) rfl (by kernel_rfl) (by kernel_rfl) (by kernel_rfl) (fun _ _ _ h=>h) (Or.inl ⟨by rfl,?_⟩) hHeld ?_
      ·intro w' hSw
       try dsimp only at hSw
       go_simp
      try simp only[QX]
      refine wpAnyH_take (i:=6) (oi:=⟨_,_,_,_,_,_⟩) (v:=.slice (some ⟨g,0,none⟩) lms.length fc2) rfl (by kernel_rfl) (by kernel_rfl) (by kernel_rfl) (fun _ _ _ h=>h) (Or.inl ⟨by rfl,?_⟩) hHeld ?_
      ·intro w' hSw
       try dsimp only at hSw
       go_simp
      try simp only[QX]
      refine wpAnyH_take (i:=7) (oi:=⟨_,_,_,_,_,_⟩) (v:=.int .i64 (k:Int)) rfl (by kernel_rfl) (by kernel_rfl) (by kernel_rfl) (fun _ _ _ h=>h) (Or.inl ⟨by rfl,?_⟩) hHeld ?_
      ·intro w' hSw
       try dsimp only at hSw
       go_simp
      try simp only[QX]
      refine wpAnyH_take (i:=8) (oi:=⟨_,_,_,_,_,_⟩) (v:=.slice (some ⟨g,0,none⟩) k fc2) rfl (by kernel_rfl) (by kernel_rfl) (by kernel_rfl) (fun _ _ _ h=>h) (Or.inl ⟨by rfl,?_⟩) hHeld ?_
      ·intro w' hSw
       try dsimp only at hSw
       go_simp
      try simp only[QX]
      refine wpAnyH_take (i:=9) (oi:=⟨_,_,_,_,_,_⟩) (v:=.agg #[.int .i64 cl,.int .i64 nm,.slice pa pl pc,.int .i64 r1,.int .i64 r2,.int .i64 lo,.int .i64 st,.slice ca cn cc,.slice ha hl hc,.slice ma ml mc]) rfl (by kernel_rfl) (by kernel_rfl) (by kernel_rfl) (fun _ _ _ h=>h) (Or.inl ⟨by rfl,?_⟩) hHeld ?_
      ·intro w' hSw
       try dsimp only at hSw
       go_simp
      try simp only[QX]
      refine wpAnyH_ready (rs:=[10]) (by kernel_rfl) (by simp) ?_;refine AllReadyH.cons (o:=⟨_,_,_,_,_,_⟩) rfl (fun K hK=>?_) AllReadyH.nil
      go_simp
      refine(Aa HTW _ (hX1.drew.trans (hb7.mono (Nat.le_of_lt lM)))).mono ?_;rintro e w8 ⟨rfl,hb8⟩
      try dsimp only
      clear hHeld;refine hK.out _ _ ⟨QC hb8 (QL hb7 lF) (QC hb7 lF f0),QC hb8 (QL hb7 lF) (QC hb7 lF f1),QC hb8 (QL hb7 lT) (QC hb7 lT t0),QC hb8 (QL hb7 lT) (QC hb7 lT t1),QC hb8 (QL hb7 lM) (QC hb7 lM m0),QC hb8 (QL hb7 lM) (QC hb7 lM m1),QC hb8 (QL hb7 lM) (QC hb7 lM m2),QC hb8 (QL hb7 lM) (QC hb7 lM m3),QC hb8 (QL hb7 lM) (QC hb7 lM m4),QC hb8 (QL hb7 lM) (QC hb7 lM m5),QC hb8 (QL hb7 lM) (QC hb7 lM m6),QC hb8 (QL hb7 lM) (QC hb7 lM m7),QC hb8 (QL hb7 lM) (QC hb7 lM m8),QC hb8 (QL hb7 lM) (QC hb7 lM m9)⟩ (fun hHeld=>?_);clear hK K
      try simp only[QX]
      refine wpAnyH_take (i:=11) (oi:=⟨_,_,_,_,_,_⟩) (v:=.bool false) rfl (by kernel_rfl) (by kernel_rfl) (by kernel_rfl) (fun _ _ _ h=>h) (Or.inl ⟨by rfl,?_⟩) hHeld ?_
      ·intro w' hSw
       try dsimp only at hSw
       go_simp
      try simp only[QX]
      refine wpAnyH_take (i:=12) (oi:=⟨_,_,_,_,_,_⟩) (v:=.bool false) rfl (by kernel_rfl) (by kernel_rfl) (by kernel_rfl) (fun _ _ _ h=>h) (Or.inl ⟨by rfl,?_⟩) hHeld ?_
      ·intro w' hSw
       try dsimp only at hSw
       go_simp
      try simp only[QX]
      refine wpAnyH_take (i:=13) (oi:=⟨_,_,_,_,_,_⟩) (v:=.agg #[.slice fa1 fl1 fc1,.slice (some ⟨g,0,none⟩) lms.length fc2]) rfl (by kernel_rfl) (by kernel_rfl) (by kernel_rfl) (fun _ _ _ h=>h) (Or.inl ⟨by rfl,?_⟩) hHeld ?_
      ·intro w' hSw
       try dsimp only at hSw
       go_simp
      try simp only[QX]
      refine wpAnyH_take (i:=14) (oi:=⟨_,_,_,_,_,_⟩) (v:=.agg #[.slice (some ⟨tg,0,none⟩) T.length cap,.slice ya yn yc]) rfl (by kernel_rfl) (by kernel_rfl) (by kernel_rfl) (fun _ _ _ h=>h) (Or.inl ⟨by rfl,?_⟩) hHeld ?_
      ·intro w' hSw
       try dsimp only at hSw
       go_simp
      try simp only[QX]
      refine wpAnyH_take (i:=15) (oi:=⟨_,_,_,_,_,_⟩) (v:=.agg #[.int .i64 cl,.int .i64 nm,.slice pa pl pc,.int .i64 r1,.int .i64 r2,.int .i64 lo,.int .i64 st,.slice ca cn cc,.slice ha hl hc,.slice ma ml mc]) rfl (by kernel_rfl) (by kernel_rfl) (by kernel_rfl) (fun _ _ _ h=>h) (Or.inl ⟨by rfl,?_⟩) hHeld ?_
      ·intro w' hSw
       try dsimp only at hSw
       go_simp
      try simp only[QX]
      refine wpAnyH_ready (rs:=[16]) (by kernel_rfl) (by simp) ?_;refine AllReadyH.cons (o:=⟨_,_,_,_,_,_⟩) rfl (fun K hK=>?_) AllReadyH.nil
      go_simp
      refine(Aa HBR _ ((hX1.drew.trans (hb7.mono (Nat.le_of_lt lM))).trans (hb8.mono (Nat.le_trans (Nat.le_of_lt lM) hb7.size)))).mono ?_;rintro e w9 ⟨rfl,hb9⟩
      try dsimp only
      clear hHeld;refine hK.out _ _ ⟨QC hb9 (QL hb8 (QL hb7 lF)) (QC hb8 (QL hb7 lF) (QC hb7 lF f0)),QC hb9 (QL hb8 (QL hb7 lF)) (QC hb8 (QL hb7 lF) (QC hb7 lF f1)),QC hb9 (QL hb8 (QL hb7 lT)) (QC hb8 (QL hb7 lT) (QC hb7 lT t0)),QC hb9 (QL hb8 (QL hb7 lT)) (QC hb8 (QL hb7 lT) (QC hb7 lT t1)),QC hb9 (QL hb8 (QL hb7 lM)) (QC hb8 (QL hb7 lM) (QC hb7 lM m0)),QC hb9 (QL hb8 (QL hb7 lM)) (QC hb8 (QL hb7 lM) (QC hb7 lM m1)),QC hb9 (QL hb8 (QL hb7 lM)) (QC hb8 (QL hb7 lM) (QC hb7 lM m2)),QC hb9 (QL hb8 (QL hb7 lM)) (QC hb8 (QL hb7 lM) (QC hb7 lM m3)),QC hb9 (QL hb8 (QL hb7 lM)) (QC hb8 (QL hb7 lM) (QC hb7 lM m4)),QC hb9 (QL hb8 (QL hb7 lM)) (QC hb8 (QL hb7 lM) (QC hb7 lM m5)),QC hb9 (QL hb8 (QL hb7 lM)) (QC hb8 (QL hb7 lM) (QC hb7 lM m6)),QC hb9 (QL hb8 (QL hb7 lM)) (QC hb8 (QL hb7 lM) (QC hb7 lM m7)),QC hb9 (QL hb8 (QL hb7 lM)) (QC hb8 (QL hb7 lM) (QC hb7 lM m8)),QC hb9 (QL hb8 (QL hb7 lM)) (QC hb8 (QL hb7 lM) (QC hb7 lM m9))⟩ (fun hHeld=>?_);clear hK K
      try simp only[QX]
      refine wpAnyH_take (i:=17) (oi:=⟨_,_,_,_,_,_⟩) (v:=.bool true) rfl (by kernel_rfl) (by kernel_rfl) (by kernel_rfl) (fun _ _ _ h=>h) (Or.inl ⟨by rfl,?_⟩) hHeld ?_
      ·intro w' hSw
       try dsimp only at hSw
       go_simp
      try simp only[QX]
      refine wpAnyH_done (by kernel_rfl) ?_ _;have hX:=(((hX1.drew).trans (hb7.mono (Nat.le_of_lt lM))).trans (hb8.mono (Nat.le_trans (Nat.le_of_lt lM) hb7.size))).trans (hb9.mono (Nat.le_trans (Nat.le_trans (Nat.le_of_lt lM) hb7.size) hb8.size));have hBn:=hB.trans (hX.mono hBs);have CFn:=stay hX CF;have CTn:=stay hX CT;have CRn:=stay hX CR;clear hHeld f0 f1 t0 t1 m0 m1 m2 m3 m4 m5 m6 m7 m8 m9;obtain⟨z0,z1,z2⟩:=cl3 CRn;obtain⟨q0,q1,q2⟩:=fr3 CRn;have lR:=lt_of_block CRn;simp at z0 z1 z2;go_wp2_with fail
      refine bodyPost_ret (v:=.agg #[.int .i64 4,.int .i64 (k:Int),.int .i64 0]) (by simp[results,Tryz.results74,go_sem,z0,z1,z2]) rfl ?_;rw[Aa HE,Aeu (by omega)];exact⟨rfl,((hBn.setCell (by simp;omega) _).setCell (by simp;omega) _).setCell (by simp;omega) _⟩
     | false =>
      have HG:Hid (Ab1 T (lms.map Prod.fst) (k+1) ((lms.map Prod.fst).drop (k+1))=q):=by unfold Hid;rw[← hr];simp
      clear hr;go_wp2;refine wp_region_held_drew (S:=(fun w'=>w'.cell? ⟨w.heap.size,0,none⟩=some (.slice fa1 fl1 fc1)∧w'.cell? ⟨w.heap.size,1,none⟩=some (.slice (some ⟨g,0,none⟩) lms.length fc2)∧w'.cell? ⟨w.heap.size+1,0,none⟩=some (.slice (some ⟨tg,0,none⟩) T.length cap)∧w'.cell? ⟨w.heap.size+1,1,none⟩=some (.slice ya yn yc)∧w'.cell? ⟨wr.heap.size,0,none⟩=some (.int .i64 cl)∧w'.cell? ⟨wr.heap.size,1,none⟩=some (.int .i64 nm)∧w'.cell? ⟨wr.heap.size,2,none⟩=some (.slice pa pl pc)∧w'.cell? ⟨wr.heap.size,3,none⟩=some (.int .i64 r1)∧w'.cell? ⟨wr.heap.size,4,none⟩=some (.int .i64 r2)∧w'.cell? ⟨wr.heap.size,5,none⟩=some (.int .i64 lo)∧w'.cell? ⟨wr.heap.size,6,none⟩=some (.int .i64 st)∧w'.cell? ⟨wr.heap.size,7,none⟩=some (.slice ca cn cc)∧w'.cell? ⟨wr.heap.size,8,none⟩=some (.slice ha hl hc)∧w'.cell? ⟨wr.heap.size,9,none⟩=some (.slice ma ml mc))) (by kernel_rfl) ⟨f0,f1,t0,t1,m0,m1,m2,m3,m4,m5,m6,m7,m8,m9⟩ (fun hHeld=>?_);refine wpAnyH_take (i:=0) (oi:=⟨_,_,_,_,_,_⟩) (v:=.agg #[.slice (some ⟨tg,0,none⟩) T.length cap,.slice ya yn yc]) rfl (by kernel_rfl) (by kernel_rfl) (by kernel_rfl) (fun _ _ _ h=>h) (Or.inl ⟨by rfl,?_⟩) hHeld ?_
      ·intro w' hSw
       try dsimp only at hSw
       go_simp
      try simp only[QX]
      refine wpAnyH_take (i:=1) (oi:=⟨_,_,_,_,_,_⟩) (v:=.agg #[.int .i64 cl,.int .i64 nm,.slice pa pl pc,.int .i64 r1,.int .i64 r2,.int .i64 lo,.int .i64 st,.slice ca cn cc,.slice ha hl hc,.slice ma ml mc]) rfl (by kernel_rfl) (by kernel_rfl) (by kernel_rfl) (fun _ _ _ h=>h) (Or.inl ⟨by rfl,?_⟩) hHeld ?_
      ·intro w' hSw
       try dsimp only at hSw
       go_simp
      try simp only[QX]
      refine wpAnyH_ready (rs:=[2]) (by kernel_rfl) (by simp) ?_;refine AllReadyH.cons (o:=⟨_,_,_,_,_,_⟩) rfl (fun K hK=>?_) AllReadyH.nil
      go_simp
      refine(Aa HHM _ hX1.drew).mono ?_;rintro e w7 ⟨rfl,hb7⟩
      try dsimp only
      clear hHeld;refine hK.out _ _ ⟨QC hb7 lF f0,QC hb7 lF f1,QC hb7 lT t0,QC hb7 lT t1,QC hb7 lM m0,QC hb7 lM m1,QC hb7 lM m2,QC hb7 lM m3,QC hb7 lM m4,QC hb7 lM m5,QC hb7 lM m6,QC hb7 lM m7,QC hb7 lM m8,QC hb7 lM m9⟩ (fun hHeld=>?_);clear hK K
      try simp only[QX]
      refine wpAnyH_take (i:=3) (oi:=⟨_,_,_,_,_,_⟩) (v:=.bool false) rfl (by kernel_rfl) (by kernel_rfl) (by kernel_rfl) (fun _ _ _ h=>h) (Or.inl ⟨by rfl,?_⟩) hHeld ?_
      ·intro w' hSw
       try dsimp only at hSw
       go_simp
      try simp only[QX]
      refine wpAnyH_take (i:=4) (oi:=⟨_,_,_,_,_,_⟩) (v:=.bool false) rfl (by kernel_rfl) (by kernel_rfl) (by kernel_rfl) (fun _ _ _ h=>h) (Or.inl ⟨by rfl,?_⟩) hHeld ?_
      ·intro w' hSw
       try dsimp only at hSw
       go_simp
      try simp only[QX]
      refine wpAnyH_take (i:=5) (oi:=⟨_,_,_,_,_,_⟩) (v:=.pointer (some ⟨w.heap.size,1,none⟩)) rfl (by kernel_rfl) (by kernel_rfl) (by kernel_rfl) (fun _ _ _ h=>h) (Or.inl ⟨by rfl,?_⟩) hHeld ?_
      ·intro w' hSw
       try dsimp only at hSw
       go_simp
      try simp only[QX]
      refine wpAnyH_take (i:=6) (oi:=⟨_,_,_,_,_,_⟩) (v:=.slice (some ⟨g,0,none⟩) lms.length fc2) rfl (by kernel_rfl) (by kernel_rfl) (by kernel_rfl) (fun _ _ _ h=>h) (Or.inl ⟨by rfl,?_⟩) hHeld ?_
      ·intro w' hSw
       try dsimp only at hSw
       go_simp
      try simp only[QX]
      refine wpAnyH_take (i:=7) (oi:=⟨_,_,_,_,_,_⟩) (v:=.int .i64 (k:Int)) rfl (by kernel_rfl) (by kernel_rfl) (by kernel_rfl) (fun _ _ _ h=>h) (Or.inl ⟨by rfl,?_⟩) hHeld ?_
      ·intro w' hSw
       try dsimp only at hSw
       go_simp
      try simp only[QX]
      refine wpAnyH_take (i:=8) (oi:=⟨_,_,_,_,_,_⟩) (v:=.slice (some ⟨g,0,none⟩) k fc2) rfl (by kernel_rfl) (by kernel_rfl) (by kernel_rfl) (fun _ _ _ h=>h) (Or.inl ⟨by rfl,?_⟩) hHeld ?_
      ·intro w' hSw
       try dsimp only at hSw
       go_simp
      try simp only[QX]
      refine wpAnyH_take (i:=9) (oi:=⟨_,_,_,_,_,_⟩) (v:=.agg #[.int .i64 cl,.int .i64 nm,.slice pa pl pc,.int .i64 r1,.int .i64 r2,.int .i64 lo,.int .i64 st,.slice ca cn cc,.slice ha hl hc,.slice ma ml mc]) rfl (by kernel_rfl) (by kernel_rfl) (by kernel_rfl) (fun _ _ _ h=>h) (Or.inl ⟨by rfl,?_⟩) hHeld ?_
      ·intro w' hSw
       try dsimp only at hSw
       go_simp
      try simp only[QX]
      refine wpAnyH_ready (rs:=[10]) (by kernel_rfl) (by simp) ?_;refine AllReadyH.cons (o:=⟨_,_,_,_,_,_⟩) rfl (fun K hK=>?_) AllReadyH.nil
      go_simp
      refine(Aa HTW _ (hX1.drew.trans (hb7.mono (Nat.le_of_lt lM)))).mono ?_;rintro e w8 ⟨rfl,hb8⟩
      try dsimp only
      clear hHeld;refine hK.out _ _ ⟨QC hb8 (QL hb7 lF) (QC hb7 lF f0),QC hb8 (QL hb7 lF) (QC hb7 lF f1),QC hb8 (QL hb7 lT) (QC hb7 lT t0),QC hb8 (QL hb7 lT) (QC hb7 lT t1),QC hb8 (QL hb7 lM) (QC hb7 lM m0),QC hb8 (QL hb7 lM) (QC hb7 lM m1),QC hb8 (QL hb7 lM) (QC hb7 lM m2),QC hb8 (QL hb7 lM) (QC hb7 lM m3),QC hb8 (QL hb7 lM) (QC hb7 lM m4),QC hb8 (QL hb7 lM) (QC hb7 lM m5),QC hb8 (QL hb7 lM) (QC hb7 lM m6),QC hb8 (QL hb7 lM) (QC hb7 lM m7),QC hb8 (QL hb7 lM) (QC hb7 lM m8),QC hb8 (QL hb7 lM) (QC hb7 lM m9)⟩ (fun hHeld=>?_);clear hK K
      try simp only[QX]
      refine wpAnyH_take (i:=11) (oi:=⟨_,_,_,_,_,_⟩) (v:=.bool false) rfl (by kernel_rfl) (by kernel_rfl) (by kernel_rfl) (fun _ _ _ h=>h) (Or.inl ⟨by rfl,?_⟩) hHeld ?_
      ·intro w' hSw
       try dsimp only at hSw
       go_simp
      try simp only[QX]
      refine wpAnyH_take (i:=12) (oi:=⟨_,_,_,_,_,_⟩) (v:=.bool false) rfl (by kernel_rfl) (by kernel_rfl) (by kernel_rfl) (fun _ _ _ h=>h) (Or.inl ⟨by rfl,?_⟩) hHeld ?_
      ·intro w' hSw
       try dsimp only at hSw
       go_simp
      try simp only[QX]
      refine wpAnyH_take (i:=13) (oi:=⟨_,_,_,_,_,_⟩) (v:=.agg #[.slice fa1 fl1 fc1,.slice (some ⟨g,0,none⟩) lms.length fc2]) rfl (by kernel_rfl) (by kernel_rfl) (by kernel_rfl) (fun _ _ _ h=>h) (Or.inl ⟨by rfl,?_⟩) hHeld ?_
      ·intro w' hSw
       try dsimp only at hSw
       go_simp
      try simp only[QX]
      refine wpAnyH_take (i:=14) (oi:=⟨_,_,_,_,_,_⟩) (v:=.agg #[.slice (some ⟨tg,0,none⟩) T.length cap,.slice ya yn yc]) rfl (by kernel_rfl) (by kernel_rfl) (by kernel_rfl) (fun _ _ _ h=>h) (Or.inl ⟨by rfl,?_⟩) hHeld ?_
      ·intro w' hSw
       try dsimp only at hSw
       go_simp
      try simp only[QX]
      refine wpAnyH_take (i:=15) (oi:=⟨_,_,_,_,_,_⟩) (v:=.agg #[.int .i64 cl,.int .i64 nm,.slice pa pl pc,.int .i64 r1,.int .i64 r2,.int .i64 lo,.int .i64 st,.slice ca cn cc,.slice ha hl hc,.slice ma ml mc]) rfl (by kernel_rfl) (by kernel_rfl) (by kernel_rfl) (fun _ _ _ h=>h) (Or.inl ⟨by rfl,?_⟩) hHeld ?_
      ·intro w' hSw
       try dsimp only at hSw
       go_simp
      try simp only[QX]
      refine wpAnyH_ready (rs:=[16]) (by kernel_rfl) (by simp) ?_;refine AllReadyH.cons (o:=⟨_,_,_,_,_,_⟩) rfl (fun K hK=>?_) AllReadyH.nil
      go_simp
      refine(Aa HBR _ ((hX1.drew.trans (hb7.mono (Nat.le_of_lt lM))).trans (hb8.mono (Nat.le_trans (Nat.le_of_lt lM) hb7.size)))).mono ?_;rintro e w9 ⟨rfl,hb9⟩
      try dsimp only
      clear hHeld;refine hK.out _ _ ⟨QC hb9 (QL hb8 (QL hb7 lF)) (QC hb8 (QL hb7 lF) (QC hb7 lF f0)),QC hb9 (QL hb8 (QL hb7 lF)) (QC hb8 (QL hb7 lF) (QC hb7 lF f1)),QC hb9 (QL hb8 (QL hb7 lT)) (QC hb8 (QL hb7 lT) (QC hb7 lT t0)),QC hb9 (QL hb8 (QL hb7 lT)) (QC hb8 (QL hb7 lT) (QC hb7 lT t1)),QC hb9 (QL hb8 (QL hb7 lM)) (QC hb8 (QL hb7 lM) (QC hb7 lM m0)),QC hb9 (QL hb8 (QL hb7 lM)) (QC hb8 (QL hb7 lM) (QC hb7 lM m1)),QC hb9 (QL hb8 (QL hb7 lM)) (QC hb8 (QL hb7 lM) (QC hb7 lM m2)),QC hb9 (QL hb8 (QL hb7 lM)) (QC hb8 (QL hb7 lM) (QC hb7 lM m3)),QC hb9 (QL hb8 (QL hb7 lM)) (QC hb8 (QL hb7 lM) (QC hb7 lM m4)),QC hb9 (QL hb8 (QL hb7 lM)) (QC hb8 (QL hb7 lM) (QC hb7 lM m5)),QC hb9 (QL hb8 (QL hb7 lM)) (QC hb8 (QL hb7 lM) (QC hb7 lM m6)),QC hb9 (QL hb8 (QL hb7 lM)) (QC hb8 (QL hb7 lM) (QC hb7 lM m7)),QC hb9 (QL hb8 (QL hb7 lM)) (QC hb8 (QL hb7 lM) (QC hb7 lM m8)),QC hb9 (QL hb8 (QL hb7 lM)) (QC hb8 (QL hb7 lM) (QC hb7 lM m9))⟩ (fun hHeld=>?_);clear hK K
      try simp only[QX]
      refine wpAnyH_take (i:=17) (oi:=⟨_,_,_,_,_,_⟩) (v:=.bool false) rfl (by kernel_rfl) (by kernel_rfl) (by kernel_rfl) (fun _ _ _ h=>h) (Or.inl ⟨by rfl,?_⟩) hHeld ?_
      ·intro w' hSw
       try dsimp only at hSw
       go_simp
      try simp only[QX]
      refine wpAnyH_done (by kernel_rfl) ?_ _;have hX:=(((hX1.drew).trans (hb7.mono (Nat.le_of_lt lM))).trans (hb8.mono (Nat.le_trans (Nat.le_of_lt lM) hb7.size))).trans (hb9.mono (Nat.le_trans (Nat.le_trans (Nat.le_of_lt lM) hb7.size) hb8.size));have hBn:=hB.trans (hX.mono hBs);have CFn:=stay hX CF;have CTn:=stay hX CT;have CRn:=stay hX CR;clear hHeld f0 f1 t0 t1 m0 m1 m2 m3 m4 m5 m6 m7 m8 m9;go_wp2
      go_roundw
      case rel=>exact⟨k+1,by omega,by go_num,HG,hBn,CFn,CTn,CRn⟩
      case measure=>simp[intOf];omega
  ·have HE:Hid (q = -1):=by unfold Hid;rw[← Aa HQ,List.drop_eq_nil_of_le (by simp;omega)];rfl
   have kb:¬ (k:Int)<(lms.length:Int):=by omega
   clear HQ;obtain⟨z0,z1,z2⟩:=cl3 CR;obtain⟨q0,q1,q2⟩:=fr3 CR;simp at z0 z1 z2;go_wp2_with fail
   refine bodyPost_ret (v:=.agg #[.int .i64 0,.int .i64 0,.int .i64 0]) (by simp[results,Tryz.results74,go_sem,z0,z1,z2]) rfl ?_;rw[Aa HE];exact⟨rfl,((hB.setCell (by simp;omega) _).setCell (by simp;omega) _).setCell (by simp;omega) _⟩
variable {ya:Option Addr}{yn yc:Nat}
theorem N1 (fa1 fa2:Option Addr) (fc1 fc2:Nat) (lcs:List (Rd.Cls × Value)) (lms:List (Rd.Mth × MthV)) (T:List Int) (tg cap bm:Nat) (w:World) (hT:T.length≤1000) (hTr:TreeIn w tg T)
  (hm6:lms.length≤6) (hc6:lcs.length≤6) (hcf:∀ p∈lcs,p.1.fields.length≤1000) (hcs:ClssIn w bm (.slice fa1 lcs.length fc1) lcs) (hms:MthsIn w bm (.slice fa2 lms.length fc2) lms) (hbd:∀ p∈lms,Ad5 p.1) :
  Calls Tryz.prog 75 #[.agg #[.slice fa1 lcs.length fc1,.slice fa2 lms.length fc2],.agg #[.slice (some ⟨tg,0,none⟩) T.length cap,.slice ya yn yc]] w fun e w' =>
   e=.returned (.agg #[.int .i64 (Abe T (Cd.fieldSum (lcs.map Prod.fst):Int) (lms.map fun p=>p.1.cl) 0 (lms.map Prod.fst)).1,.int .i64 (Abe T (Cd.fieldSum (lcs.map Prod.fst):Int) (lms.map fun p=>p.1.cl) 0 (lms.map Prod.fst)).2.1,
    .int .i64 (Abe T (Cd.fieldSum (lcs.map Prod.fst):Int) (lms.map fun p=>p.1.cl) 0 (lms.map Prod.fst)).2.2])∧Below w.heap.size w w':=by
 have hIB:=fun cl nm pa pl pc r1 r2 st ca ha ma cc hc mc (m:Rd.Mth) lmp w' (h:Below w.heap.size w w') h1 h2 h3 h4 h5 =>
  Sv fa1 fa2 fc1 fc2 tg cap ya yn yc cl nm pa pl pc r1 r2 st ca ha ma cc hc mc T bm lcs lms m lmp w' hT (hTr.below h) hm6 hc6 hcf (hcs.kp (Kp.of_below (e:=none) h) (by decide) (by decide)) (hms.kp (Kp.of_below (e:=none) h) (by decide) (by decide) (by decide) (by decide) (by decide)) h1 h2 h3 h4 h5
 generalize (Cd.fieldSum (lcs.map Prod.fst):Int)=nf at *;generalize (lms.map fun p=>p.1.cl)=ow at *;generalize hq:Abe T nf ow 0 (lms.map Prod.fst)=q;obtain⟨R1,R2,R3⟩:=q;have HQ:Hid (Abe T nf ow 0 ((lms.map Prod.fst).drop 0)=(R1,R2,R3)):=hq;have HIB:=Ac hIB;clear hq hIB;have hB0:=A8 w (O1 fa1 lcs.length fc1 fa2 lms.length fc2) (O2 (some ⟨tg,0,none⟩) T.length cap ya yn yc) (O8 0 0 0);have C0:=Em w (O1 fa1 lcs.length fc1 fa2 lms.length fc2) (O2 (some ⟨tg,0,none⟩) T.length cap ya yn yc) (O8 0 0 0);go_enter Tryz.func75,Tryz.ntmps75;go_wp2
 go_loopw [11] (fun v wr=>∃ k:Nat,k≤lms.length∧v=.int .i64 (k:Int)∧Hid (Abe T nf ow k ((lms.map Prod.fst).drop k)=(R1,R2,R3))∧Below w.heap.size w wr∧wr.heap[w.heap.size]?=some (O1 fa1 lcs.length fc1 fa2 lms.length fc2) ∧
   wr.heap[w.heap.size+1]?=some (O2 (some ⟨tg,0,none⟩) T.length cap ya yn yc)∧wr.heap[w.heap.size+1+1]?=some (O8 0 0 0))
  (fun v _=>lms.length-(intOf v).toNat)
 case atStart=>exact⟨0,by omega,rfl,HQ,hB0,C0.1,C0.2.1,C0.2.2⟩
 case round =>
  clear HQ hB0 C0;obtain⟨k,hk,rfl,HQ,hB,CF,CT,CR⟩:=hrel;have hBs:=hB.size;by_cases hkn:k<lms.length
  ·have hmr:MthsIn wr bm (.slice fa2 lms.length fc2) lms:=hms.kp (Kp.of_below (e:=none) hB) (by decide) (by decide) (by decide) (by decide) (by decide);obtain⟨o,g,hg,hglt,hrow,his⟩:=hmr.mth hkn;replace hrow:=Hy hrow;have hmb:=hbd _ (List.getElem_mem hkn);have hd:(lms.map Prod.fst).drop k=lms[k].1::(lms.map Prod.fst).drop (k+1):=by
    rw[List.drop_eq_getElem_cons (by simpa using hkn)]
    simp
   have hr:=Aa HQ;rw[hd,Abe]at hr;clear hd;generalize lms[k].1=y at *;obtain⟨-,-,-,-,e5,-,-,-,e8,hco,e9,hhs,e10,lm,hlm,hmp⟩:=his;have e10':o.ml=lm.length:=by rw[e10,← hlm];simp
   obtain⟨cl,nm,pa,pl,pc,r1,r2,lo,st,ca,cn,cc,ha,hl,hc,ma,ml,mc⟩:=o;simp only at hrow e5 e8 e9 e10' hco hhs hmp;subst e5 e8 e9 e10';obtain⟨y0,y1,y2,y3,y4,y5,y6,y7,y8,y9⟩:=hrow;have hX1:Below wr.heap.size wr (wr.alloc (O20 cl nm pa pl pc r1 r2 y.locals st ca y.code.length cc ha y.handlers.length hc ma lm.length mc)):=QN _;have hc1:=Aa HIB cl nm pa pl pc r1 r2 st ca ha ma cc hc mc y lm _ (hB.trans (hX1.mono hBs)) hmb hlm (hco.kp (Kp.of_below (e:=none) hX1) (by decide)) (hhs.kp (Kp.of_below (e:=none) hX1) (by decide)) (hmp.kp (Kp.of_below (e:=none) hX1) (by decide) (by decide));simp only[PBd.val]at hc1;generalize hb:Adh T nf ow y=b at *;obtain⟨b1,b2⟩:=b;simp only at hc1 hr;have HC:=Ac hc1;clear hc1 hb hmr hmb e10 hlm hco hhs hmp HQ;subst hg;obtain⟨x0,x1⟩:=cl2 CF;obtain⟨t0,t1⟩:=cl2 CT;simp at x0 x1 t0 t1;have lF:=lt_of_block CF;have lT:=lt_of_block CT;have kb:(k:Int)<(lms.length:Int):=by omega
   by_cases h0:b1=0
   ·subst h0;have HG:Hid (Abe T nf ow (k+1) ((lms.map Prod.fst).drop (k+1))=(R1,R2,R3)):=by unfold Hid;rw[← hr];simp
    clear hr;go_wp2_with fail
    refine(Aa HC).mono ?_;rintro e w2 ⟨rfl,hb2⟩;have hX2:=(QB hX1 hb2).alloc (Nat.le_trans hX1.size hb2.size) (O8 0 0 b2);have hB2:=hB.trans (hX2.mono hBs);have CF2:=stay hX2 CF;have CT2:=stay hX2 CT;have CR2:=stay hX2 CR;clear hb2 hX1 hX2 y0 y1 y2 y3 y4 y5 y6 y7 y8 y9 x0 x1 t0 t1 lF lT CF CT CR hB;go_wp2
    go_roundw
    case rel=>exact⟨k+1,by omega,by go_num,HG,hB2,CF2,CT2,CR2⟩
    case measure=>simp[intOf];omega
   ·rw[if_pos h0]at hr;have HE:=Ac hr;have h0':(b1 != 0)=true:=by simpa using h0
    clear hr h0;go_wp2_with fail
    refine(Aa HC).mono ?_;rintro e w2 ⟨rfl,hb2⟩;have hX2:=QB hX1 hb2;have hB2:=hB.trans (hX2.mono hBs);have CR2:=stay hX2 CR;have lR:=lt_of_block CR2;have hB2s:=hB2.size;have hw2:=hX2.size;obtain⟨z0,z1,z2⟩:=cl3 CR2;obtain⟨q0,q1,q2⟩:=fr3 CR2;simp at z0 z1 z2;clear hb2 hX1 hX2 y0 y1 y2 y3 y4 y5 y6 y7 y8 y9 x0 x1 t0 t1 lF lT CF CT CR hB;go_wp2_with fail
    refine bodyPost_ret (v:=.agg #[.int .i64 b1,.int .i64 (k:Int),.int .i64 b2]) (by simp[results,Tryz.results75,go_sem,z0,z1,z2,lR]) rfl ?_;have e:=Aa HE;simp only[Prod.mk.injEq]at e;obtain⟨rfl,rfl,rfl⟩:=e;exact⟨rfl,(((hB2.setCell (by simp;omega) _).setCell (by simp;omega) _).setCell (by simp;omega) _).alloc (by simp;omega) _⟩
  ·have HE:Hid ((R1,R2,R3)=((0:Int),(0:Int),(0:Int))):=by unfold Hid;rw[← Aa HQ,List.drop_eq_nil_of_le (by simp;omega)];rfl
   have kb:¬ (k:Int)<(lms.length:Int):=by omega
   clear HQ;obtain⟨z0,z1,z2⟩:=cl3 CR;obtain⟨q0,q1,q2⟩:=fr3 CR;simp at z0 z1 z2;go_wp2_with fail
   refine bodyPost_ret (v:=.agg #[.int .i64 0,.int .i64 0,.int .i64 0]) (by simp[results,Tryz.results75,go_sem,z0,z1,z2]) rfl ?_;have e:=Aa HE;simp only[Prod.mk.injEq]at e;obtain⟨rfl,rfl,rfl⟩:=e;exact⟨rfl,((hB.setCell (by simp;omega) _).setCell (by simp;omega) _).setCell (by simp;omega) _⟩
theorem TreeIn.set {w:World}{g b i:Nat}{l:List Int} (h:TreeIn w g l) (hb:b≠g) (u:Value):TreeIn (w.setCell ⟨b,i,none⟩ u) g l :=
 ⟨by simpa[World.setCell] using h.1,fun j hj=>by rw[World.cell?_setCell_other _ _ _ _ (by intro e;exact hb (congrArg Addr.block e))];exact h.2 j hj⟩
theorem Wa (fa1 fa2:Option Addr) (fc1 fc2:Nat) (lcs:List (Rd.Cls × Value)) (lms:List (Rd.Mth × MthV)) (bm:Nat) (w:World)
  (hm6:lms.length≤6) (hc6:lcs.length≤6) (hcf:∀ p∈lcs,p.1.fields.length≤1000) (hcs:ClssIn w bm (.slice fa1 lcs.length fc1) lcs) (hms:MthsIn w bm (.slice fa2 lms.length fc2) lms) (hbd:∀ p∈lms,Ad5 p.1) :
  Calls Tryz.prog 40 #[.agg #[.slice fa1 lcs.length fc1,.slice fa2 lms.length fc2]] w fun e w' =>
   e=.returned (.agg #[.int .i64 (Ac9 ⟨lcs.map Prod.fst,lms.map Prod.fst⟩).1,.int .i64 (Ac9 ⟨lcs.map Prod.fst,lms.map Prod.fst⟩).2.1,.int .i64 (Ac9 ⟨lcs.map Prod.fst,lms.map Prod.fst⟩).2.2])∧Below w.heap.size w w':=by
 have HCS:∀ w',Below w.heap.size w w'→ClssIn w' bm (.slice fa1 lcs.length fc1) lcs:=fun w' h=>hcs.kp (Kp.of_below (e:=none) h) (by decide) (by decide);have HMS:∀ w',Below w.heap.size w w'→MthsIn w' bm (.slice fa2 lms.length fc2) lms:=fun w' h=>hms.kp (Kp.of_below (e:=none) h) (by decide) (by decide) (by decide) (by decide) (by decide);have hIC:=fun w' (h:Below w.heap.size w w')=>My fa1 fa2 lcs.length fc1 lms.length fc2 bm lcs w' hc6 hcf (HCS w' h);have hTO:=fun w' (h:Below w.heap.size w w')=>Hu fa1 fa2 lcs.length fc1 lms.length fc2 bm lcs w' hc6 (HCS w' h);have hTl:(Tr.tree (lcs.map Prod.fst)).length≤1000:=by rw[Cc];simp;omega
 have hIH:=fun ya yn yc tg cap w' (h:Below w.heap.size w w') hTr=>Pu (ya:=ya) (yn:=yn) (yc:=yc) fa1 fa2 lcs.length fc1 fc2 lms (Tr.tree (lcs.map Prod.fst)) tg cap bm w' hTl hTr hm6 (HMS w' h) (fun p hp=>by have:=(hbd p hp).ps;omega);have hIB:=fun ya yn yc tg cap w' (h:Below w.heap.size w w') hTr=>N1 (ya:=ya) (yn:=yn) (yc:=yc) fa1 fa2 fc1 fc2 lcs lms (Tr.tree (lcs.map Prod.fst)) tg cap bm w' hTl hTr hm6 hc6 hcf (HCS w' h) (HMS w' h) hbd;have how:(lms.map fun p=>p.1.cl)=(lms.map Prod.fst).map Rd.Mth.cl:=by simp
 rw[how]at hIB;generalize hR:Ac9 ⟨lcs.map Prod.fst,lms.map Prod.fst⟩=R;unfold Ac9 Aem at hR;simp only at hR;generalize Tr.tree (lcs.map Prod.fst)=T at *;generalize Tr.inCl T 0 (lcs.map Prod.fst)=ic at *;generalize Abe T (Cd.fieldSum (lcs.map Prod.fst):Int) ((lms.map Prod.fst).map Rd.Mth.cl) 0 (lms.map Prod.fst)=bo at *;generalize hhd:Ab1 T (lms.map Prod.fst) 0 (lms.map Prod.fst)=hd at *;obtain⟨i1,i2⟩:=ic;obtain⟨b1,b2,b3⟩:=bo;obtain⟨R1,R2,R3⟩:=R;simp only at hIC hIB hR;have HIC:=Ac hIC;have HTO:=Ac hTO;have HIH:=Ac hIH;have HIB:=Ac hIB;clear hIC hTO hIH hIB HCS HMS hcs hms how hhd hbd;have hB0:=Ak w (O1 fa1 lcs.length fc1 fa2 lms.length fc2) (O8 0 0 0);have C0:=Ah w (O1 fa1 lcs.length fc1 fa2 lms.length fc2) (O8 0 0 0);have D0:=Ag w (O1 fa1 lcs.length fc1 fa2 lms.length fc2) (O8 0 0 0);by_cases h1:i1=0
 ·subst h1;rw[if_neg (by simp)]at hR;by_cases h2:0≤hd
  ·rw[if_pos h2]at hR;have HE:=Ac hR;have hre:Aep hd=(4,hd):=if_pos h2;rw[hre]at HIH;simp only at HIH;clear hR hre h2;go_enter Tryz.func40,Tryz.ntmps40;go_wp2_with fail
   refine(Aa HIC _ hB0).mono ?_;rintro e w1 ⟨rfl,hb1⟩;have hB1:=(QB hB0 hb1);have C1:=stay hb1 C0;have D1:=stay hb1 D0;have hs1:=hB1.size;have lD1:=lt_of_block D1;obtain⟨x0,x1⟩:=cl2 C1;have l1:=lt_of_block C1;simp at x0 x1;have hB1':=hB1.alloc hs1 (O8 0 i2 0);have C1':=Aj C1 (O8 0 i2 0);have D1':=Aj D1 (O8 0 i2 0);have E1':=Ad w1 (O8 0 i2 0);clear C0 D0 hB0 hb1;go_wp2_with fail
   refine(Aa HTO _ hB1').mono ?_;rintro e w2 ⟨tg,cap,ya,yn,yc,rfl,hTr,-,-,hb2⟩;have hB2:=hB1'.trans (hb2.mono hB1'.size);have C2:=stay hb2 C1';have D2:=stay hb2 D1';have E2:=stay hb2 E1';have hs2:=hB2.size;obtain⟨y0,y1⟩:=cl2 C2;have l2:=lt_of_block C2;simp at y0 y1;have hB2':=hB2.alloc hs2 (O2 (some ⟨tg,0,none⟩) T.length cap ya yn yc);have D2':=Aj D2 (O2 (some ⟨tg,0,none⟩) T.length cap ya yn yc);have E2':=Aj E2 (O2 (some ⟨tg,0,none⟩) T.length cap ya yn yc);clear x0 x1 l1 C1 D1 C1' D1' E1' hB1' hb2;go_wp2_with fail
   refine(Aa HIH ya yn yc tg cap _ hB2' (hTr.alloc _)).mono ?_;rintro e w3 ⟨rfl,hb3⟩;have hB3:=hB2'.trans (hb3.mono hB2'.size);have D3:=stay hb3 D2';have E3:=stay hb3 E2';have hs3:=hB3.size;have lE:=lt_of_block E3;have lD:=lt_of_block D3;obtain⟨e0,e1,e2⟩:=cl3 E3;obtain⟨g0,g1,g2⟩:=fr3 E3;obtain⟨z0,z1,z2⟩:=cl3 D3;obtain⟨q0,q1,q2⟩:=fr3 D3;simp at e0 e1 e2 z0 z1 z2;clear y0 y1 l2 C2 D2 E2 D2' E2' hB2' hb3;have hne:w1.heap.size≠w.heap.size+1:=by omega
   have hne':w.heap.size+1≠w1.heap.size:=by omega
   go_wp2_with fail
   refine bodyPost_ret (v:=.agg #[.int .i64 4,.int .i64 hd,.int .i64 0]) (by simp[results,Tryz.results40,go_sem,z0,z1,z2]) rfl ?_;have e:=Aa HE;simp only[Prod.mk.injEq]at e;obtain⟨rfl,rfl,rfl⟩:=e;exact⟨rfl,(((((hB3.setCell (by simp;omega) _).setCell (by simp;omega) _).setCell (by simp;omega) _).setCell (by simp) _).setCell (by simp) _).setCell (by simp) _⟩
  ·rw[if_neg h2]at hR;have HE:=Ac hR;have hre:Aep hd=(0,0):=if_neg h2;rw[hre]at HIH;simp only at HIH;clear hR hre h2;go_enter Tryz.func40,Tryz.ntmps40;go_wp2_with fail
   refine(Aa HIC _ hB0).mono ?_;rintro e w1 ⟨rfl,hb1⟩;have hB1:=(QB hB0 hb1);have C1:=stay hb1 C0;have D1:=stay hb1 D0;have hs1:=hB1.size;have lD1:=lt_of_block D1;obtain⟨x0,x1⟩:=cl2 C1;have l1:=lt_of_block C1;simp at x0 x1;have hB1':=hB1.alloc hs1 (O8 0 i2 0);have C1':=Aj C1 (O8 0 i2 0);have D1':=Aj D1 (O8 0 i2 0);have E1':=Ad w1 (O8 0 i2 0);clear C0 D0 hB0 hb1;go_wp2_with fail
   refine(Aa HTO _ hB1').mono ?_;rintro e w2 ⟨tg,cap,ya,yn,yc,rfl,hTr,-,htg,hb2⟩;have hB2:=hB1'.trans (hb2.mono hB1'.size);have C2:=stay hb2 C1';have D2:=stay hb2 D1';have E2:=stay hb2 E1';have hs2:=hB2.size;obtain⟨y0,y1⟩:=cl2 C2;have l2:=lt_of_block C2;simp at y0 y1;have hB2':=hB2.alloc hs2 (O2 (some ⟨tg,0,none⟩) T.length cap ya yn yc);have C2':=Aj C2 (O2 (some ⟨tg,0,none⟩) T.length cap ya yn yc);have T2':=Ad w2 (O2 (some ⟨tg,0,none⟩) T.length cap ya yn yc);have D2':=Aj D2 (O2 (some ⟨tg,0,none⟩) T.length cap ya yn yc);have E2':=Aj E2 (O2 (some ⟨tg,0,none⟩) T.length cap ya yn yc);have hb2':w1.heap.size<w2.heap.size:=lt_of_block E2;clear x0 x1 l1 C1 D1 C1' D1' E1' hB1' hb2;go_wp2_with fail
   refine(Aa HIH ya yn yc tg cap _ hB2' (hTr.alloc _)).mono ?_;rintro e w3 ⟨rfl,hb3⟩;have hB3:=hB2'.trans (hb3.mono hB2'.size);have D3:=stay hb3 D2';have E3:=stay hb3 E2';have hs3:=hB3.size;have lE:=lt_of_block E3;have lD:=lt_of_block D3;obtain⟨e0,e1,e2⟩:=cl3 E3;obtain⟨g0,g1,g2⟩:=fr3 E3;simp at e0 e1 e2;have C3:=stay hb3 C2';have T3:=stay hb3 T2';have lC:=lt_of_block C3;have lT:=lt_of_block T3;obtain⟨c0,c1⟩:=cl2 C3;obtain⟨t0,t1⟩:=cl2 T3;simp at c0 c1 t0 t1;have hTr3:=(hTr.alloc (O2 (some ⟨tg,0,none⟩) T.length cap ya yn yc)).below hb3;clear y0 y1 l2 C2 D2 E2 D2' E2' C2' T2' hB2' hb3;have hne:w1.heap.size≠w.heap.size+1:=by omega
   have hne':w.heap.size+1≠w1.heap.size:=by omega
   have hne2:w2.heap.size≠w1.heap.size:=by omega
   have htg':w1.heap.size≠tg:=by simp at htg;omega
   have hTr4:=((hTr3.set (i:=0) htg' (.int .i64 0)).set (i:=1) htg' (.int .i64 0)).set (i:=2) htg' (.int .i64 0);have hB4:=((hB3.setCell (p:=⟨w1.heap.size,0,none⟩) (by simp;omega) (.int .i64 0)).setCell (p:=⟨w1.heap.size,1,none⟩) (by simp;omega) (.int .i64 0)).setCell (p:=⟨w1.heap.size,2,none⟩) (by simp;omega) (.int .i64 0);have D4:(((w3.setCell ⟨w1.heap.size,0,none⟩ (.int .i64 0)).setCell ⟨w1.heap.size,1,none⟩ (.int .i64 0)).setCell ⟨w1.heap.size,2,none⟩ (.int .i64 0)).heap[w.heap.size+1]?=some (O8 0 0 0):=by
    rw[Below.heap_setCell _ _ _ _ (by simpa using hne'),Below.heap_setCell _ _ _ _ (by simpa using hne'),Below.heap_setCell _ _ _ _ (by simpa using hne')];exact D3
   clear D3 hTr3 hTr hB3;go_wp2_with fail
   refine(Aa HIB ya yn yc tg cap _ hB4 hTr4).mono ?_;rintro e w5 ⟨rfl,hb5⟩;have hB5:=QB hB4 hb5;have D5:=stay hb5 D4;obtain⟨z0,z1,z2⟩:=cl3 D5;obtain⟨q0,q1,q2⟩:=fr3 D5;simp at z0 z1 z2;go_wp2_with fail
   refine bodyPost_ret (v:=.agg #[.int .i64 b1,.int .i64 b2,.int .i64 b3]) (by simp[results,Tryz.results40,go_sem,z0,z1,z2]) rfl ?_;have e:=Aa HE;simp only[Prod.mk.injEq]at e;obtain⟨rfl,rfl,rfl⟩:=e;exact⟨rfl,((hB5.setCell (by simp) _).setCell (by simp) _).setCell (by simp) _⟩
 ·rw[if_pos h1]at hR;have HE:=Ac hR;have h1':(i1 != 0)=true:=by simpa using h1
  clear hR h1;go_enter Tryz.func40,Tryz.ntmps40;go_wp2_with fail
  refine(Aa HIC _ hB0).mono ?_;rintro e w1 ⟨rfl,hb1⟩;have hB1:=(QB hB0 hb1);have D1:=stay hb1 D0;have hs1:=hB1.size;have lD:=lt_of_block D1;obtain⟨z0,z1,z2⟩:=cl3 D1;obtain⟨q0,q1,q2⟩:=fr3 D1;simp at z0 z1 z2;go_wp2_with fail
  refine bodyPost_ret (v:=.agg #[.int .i64 i1,.int .i64 i2,.int .i64 0]) (by simp[results,Tryz.results40,go_sem,z0,z1,z2,lD]) rfl ?_;have e:=Aa HE;simp only[Prod.mk.injEq]at e;obtain⟨rfl,rfl,rfl⟩:=e;exact⟨rfl,(((hB1.setCell (by simp) _).setCell (by simp) _).setCell (by simp) _).alloc (by simp;omega) _⟩
end Go.Proofs.YtcefiamkoincoaaGreat
