/- a part of the proofs -/
import Derived.Laws.Tables
import Derived.Test.YtpcgnjolfahacaaGreatPk11
set_option maxRecDepth 100000
set_option maxHeartbeats 40000000
set_option linter.unusedVariables false
set_option linter.unusedSimpArgs false
namespace Go.Proofs.YtpcgnjolfahacaaGreat
open Go.RowKit
theorem Rc (b:PBd) (w:World) :
  Calls Tryz.prog 109 #[.agg #[.slice b.fa1 b.fl1 b.fc1,.slice b.fa2 b.fl2 b.fc2],.agg #[.slice (some ⟨b.tg,0,none⟩) b.T.length b.tc,.slice b.ya b.yn b.yc],.agg #[.int .i64 b.cl,.int .i64 b.nm,.slice b.pa b.pl b.pc,.int .i64 b.r1,.int .i64 b.r2,.int .i64 b.lo,.int .i64 b.st,.slice b.ca b.cn b.cc,.slice b.ha b.hl b.hc,.slice b.ma b.ml b.mc],.slice b.la b.L.length b.lc] w fun e w' =>
   e=.returned b.val∧Below w.heap.size w w':=by
 obtain⟨fa1,fl1,fc1,fa2,fl2,fc2,tg,tc,ya,yn,yc,cl,nm,pa,pl,pc,r1,r2,lo,st,ca,cn,cc,ha,hl,hc,ma,ml,mc,la,lc,T,L⟩:=b;simp only[PBd.val];go_enter Tryz.func109,Tryz.ntmps109;go_wp2;refine bodyPost_ret (v:=.agg #[.slice fa1 fl1 fc1,.slice fa2 fl2 fc2,.slice (some ⟨tg,0,none⟩) T.length tc,.slice ya yn yc,.int .i64 cl,.int .i64 nm,.slice pa pl pc,.int .i64 r1,.int .i64 r2,.int .i64 lo,.int .i64 st,.slice ca cn cc,.slice ha hl hc,.slice ma ml mc,.slice la L.length lc]) (by simp[results,Tryz.results109,go_sem]) rfl ?_;exact⟨rfl,Cq _ _ _ _ _⟩
def Agb (FR:Rd.Mth→Int × Int):Nat→List Rd.Mth→Int × Int × Int
 | _,[]=>(0,0,0)
 | k,m::r=>if (FR m).1≠0 then ((FR m).1,(k:Int),(FR m).2) else Agb FR (k+1) r
theorem Au {w:World}{k1 k2 k3:Nat}{a1 a2 b1 b2:Option Addr}{m1 d1 m2 d2 m3 d3 m4 d4:Nat}{cl nm r1 r2 lo st:Int}{pa ca ha ma:Option Addr}{pl pc cn cc hl hc ml mc:Nat} (hF:w.heap[k1]?=some (O1 a1 m1 d1 a2 m2 d2)) (hT:w.heap[k2]?=some (O2 b1 m3 d3 b2 m4 d4)) (hM:w.heap[k3]?=some (O12 cl nm pa pl pc r1 r2 lo st ca cn cc ha hl hc ma ml mc)) :
  (w.cell? ⟨k1,0,none⟩=some (.slice a1 m1 d1)∧w.cell? ⟨k1,1,none⟩=some (.slice a2 m2 d2))∧(w.cell? ⟨k2,0,none⟩=some (.slice b1 m3 d3)∧w.cell? ⟨k2,1,none⟩=some (.slice b2 m4 d4))∧w.cell? ⟨k3,0,none⟩=some (.int .i64 cl)∧w.cell? ⟨k3,1,none⟩=some (.int .i64 nm)∧w.cell? ⟨k3,2,none⟩=some (.slice pa pl pc)∧w.cell? ⟨k3,3,none⟩=some (.int .i64 r1)∧w.cell? ⟨k3,4,none⟩=some (.int .i64 r2)∧w.cell? ⟨k3,5,none⟩=some (.int .i64 lo)∧w.cell? ⟨k3,6,none⟩=some (.int .i64 st)∧w.cell? ⟨k3,7,none⟩=some (.slice ca cn cc)∧w.cell? ⟨k3,8,none⟩=some (.slice ha hl hc)∧w.cell? ⟨k3,9,none⟩=some (.slice ma ml mc):=by
 refine⟨⟨?_,?_⟩,⟨?_,?_⟩,?_,?_,?_,?_,?_,?_,?_,?_,?_,?_⟩
 all_goals first | (rw[Ab hF];rfl) | (rw[Ab hT];rfl) | (rw[Ab hM];rfl)
theorem Ay {P:Program}{ops:Array Oper}{o:Oper}{a:Act}{w:World}{K:Act→World→Prop}{Q:Exit→Act→World→Prop}{E:Prop} (hg:o.guard=none) (ty:TypeId) (x y:Operand) (ho:o.op=.store ty x y)
  (g:Nat) (cells:Array Value) (hx:a.eval x=.pointer (some ⟨g,0,none⟩)) (hy:a.eval y=.agg cells) (t:TypeId) (old:Array Value) (hgg:w.heap[g]?=some (.cells old t (0,0))) (hi:(P.info? ty).map (·.size)=some cells.size)
  (hold:old.size=cells.size) (h1:cells.all (·.oneCell')=true) (h:K (a.put o.dst undef) (w.setRow g cells)):if Region.wanted o (yielded ops a.tmps)=true then Oper.wp P o a w K Q else E:=by
 have hw:Region.wanted o (yielded ops a.tmps)=true:=by simp[Region.wanted,hg]
 rw[if_pos hw];exact wp_store_row ty x y ho g cells hx hy t old hgg hi hold h1 h
theorem Dc {B g:Nat}{w0 w:World} (hb:Below B w0 w) (hBg:B≤g) (cs:Array Value):Below B w0 (w.setRow g cs) :=
 ⟨hb.os,hb.tape,hb.output,by rw[setRow_size];exact hb.size,fun k hk=>(setRow_other w g k cs (by omega)).trans (hb.block k hk)⟩
theorem Ce {w:World}{g:Nat}{old cs:Array Value}{t:TypeId} (hg:w.heap[g]?=some (.cells old t (0,0))):(w.setRow g cs).heap[g]?=some (.cells cs t (0,0)):=setRow_heap w g old cs t (0,0) hg
theorem Aj {w:World}{g k:Nat}{cs:Array Value} (h:k≠g):(w.setRow g cs).heap[k]?=w.heap[k]?:=setRow_other w g k cs h
theorem Zx (fa1 fa2:Option Addr) (fl1 fc1 fc2 bm:Nat) (lcs:List (Rd.Cls × Value)) (lms:List (Rd.Mth × MthV)) (FR:Rd.Mth→Int × Int) (w:World) (hc6:lcs.length≤6) (hcs:ClssIn w bm (.slice fa1 fl1 fc1) lcs) (hm6:lms.length≤1000) (hms:MthsIn w bm (.slice fa2 lms.length fc2) lms)
  (hcode:∀ p∈lms,p.1.code.length≤1000∧∀ x∈p.1.code,0≤x)
  (hFd:∀ p∈lms,∀ (b:PBd) bb w',Below w.heap.size w w'→b.fa1=fa1→b.fl1=fl1→b.fc1=fc1→b.fa2=fa2→b.fl2=lms.length→b.fc2=fc2→b.T=Tr.tree (lcs.map Prod.fst)→b.L=Cd.readL p.1.code→TreeIn w' b.tg b.T→w'.ownsRow w.heap.size 105 1 (.slice b.ya b.yn b.yc) (7+lcs.length) (Tr.fvals lcs) →
   (⟨b.cl,b.nm,b.pa,b.pl,b.pc,b.r1,b.r2,b.lo,b.st,b.ca,b.cn,b.cc,b.ha,b.hl,b.hc,b.ma,b.ml,b.mc⟩:PM).is p.1 w' bm→InsAt w' bb (.slice b.la b.L.length b.lc) b.L →
   Calls Tryz.prog 129 #[b.pval] w' fun e w''=>e=.returned (.agg #[.int .i64 (FR p.1).1,.int .i64 0,.int .i64 (FR p.1).2])∧Below w'.heap.size w' w'') :
  Calls Tryz.prog 80 #[.agg #[.slice fa1 fl1 fc1,.slice fa2 lms.length fc2]] w fun e w'=>e=.returned (.agg #[.int .i64 (Agb FR 0 (lms.map Prod.fst)).1,.int .i64 (Agb FR 0 (lms.map Prod.fst)).2.1,.int .i64 (Agb FR 0 (lms.map Prod.fst)).2.2])∧Below w.heap.size w w':=by
 have hTO:=fun w' (h:Below w.heap.size w w')=>Ev fa1 fa2 fl1 fc1 lms.length fc2 bm lcs w' hc6 (hcs.kp (Kp.of_below (e:=none) h) (by decide) (by decide));have HMS:Hid (∀ w',Below w.heap.size w w'→MthsIn w' bm (.slice fa2 lms.length fc2) lms):=fun w' h=>hms.kp (Kp.of_below (e:=none) h) (by decide) (by decide) (by decide) (by decide) (by decide);generalize hR:Agb FR 0 (lms.map Prod.fst)=R;have HR:Hid (Agb FR 0 ((lms.map Prod.fst).drop 0)=R):=hR;have HTO:=Ac hTO;have HFD:=Ac hFd;have HCO:=Ac hcode;clear hTO hFd hcode hR hcs hms;have hB0:=Ai w (O1 fa1 fl1 fc1 fa2 lms.length fc2) (O8 0 0 0);have F0:=Ak w (O1 fa1 fl1 fc1 fa2 lms.length fc2) (O8 0 0 0);have Z0:=Ah w (O1 fa1 fl1 fc1 fa2 lms.length fc2) (O8 0 0 0);have hsz0:((w.alloc (O1 fa1 fl1 fc1 fa2 lms.length fc2)).alloc (O8 0 0 0)).heap.size=w.heap.size+2:=by simp
 go_enter Tryz.func80,Tryz.ntmps80;go_wp2_with fail
 refine(Aa HTO _ hB0).mono ?_;rintro e w1 ⟨tg,tc,ya,yn,yc,rfl,hT1,hY1,htg,hb1⟩;generalize Tr.tree (lcs.map Prod.fst)=T at *;have hB1:=QB hB0 hb1;have hs1:=hB1.size;have lZ:=lt_of_block (stay hb1 Z0);have F1:=Af (stay hb1 F0) (O2 (some ⟨tg,0,none⟩) T.length tc ya yn yc);have Z1:=Af (stay hb1 Z0) (O2 (some ⟨tg,0,none⟩) T.length tc ya yn yc);have T1:=Ad w1 (O2 (some ⟨tg,0,none⟩) T.length tc ya yn yc);have hB2:=hB1.alloc hs1 (O2 (some ⟨tg,0,none⟩) T.length tc ya yn yc);have hT2:=hT1.below (QN (O2 (some ⟨tg,0,none⟩) T.length tc ya yn yc));have hY2:=A5 (Am hY1 (Kp.of_below (e:=none) (QN (O2 (some ⟨tg,0,none⟩) T.length tc ya yn yc))) (by decide)) (show w.heap.size≤_ by rw[hsz0];omega);clear hb1 F0 Z0 hT1 hY1;have f1:=Ab F1 1;simp at f1;go_wp2
 go_loopw [16] (fun s wr=>∃ q:Nat,q≤lms.length∧s=.int .i64 (q:Int)∧Hid (Agb FR q ((lms.map Prod.fst).drop q)=R)∧Below w.heap.size w wr∧wr.heap[w.heap.size]?=some (O1 fa1 fl1 fc1 fa2 lms.length fc2)∧wr.heap[w.heap.size+1]?=some (O8 0 0 0)∧wr.heap[w1.heap.size]?=some (O2 (some ⟨tg,0,none⟩) T.length tc ya yn yc)∧TreeIn wr tg T∧wr.ownsRow w.heap.size 105 1 (.slice ya yn yc) (7+lcs.length) (Tr.fvals lcs))
  (fun s _=>lms.length-(intOf s).toNat)
 case atStart=>exact⟨0,by omega,rfl,HR,hB2,F1,Z1,T1,hT2,hY2⟩
 case round =>
  clear HR hB2 F1 Z1 T1 hT2 hY2 f1 hB1 hs1;obtain⟨q,hq,rfl,HR,hB,CF,CZ,CT,hTr,hYr⟩:=hrel;have hBs:=hB.size;by_cases hkn:q<lms.length
  ·obtain⟨m,g,hg,hglt,Aw,hm,-⟩:=(Aa HMS _ hB).mth2 hkn;obtain⟨y0,y1,y2,y3,y4,y5,y6,y7,y8,y9⟩:=Fq Aw;have hd:(lms.map Prod.fst).drop q=lms[q].1::(lms.map Prod.fst).drop (q+1):=by rw[List.drop_eq_getElem_cons (by simpa using hkn)];simp
   have hr:=Aa HR;rw[hd,Agb]at hr;have hfd:=Aa HFD lms[q] (List.getElem_mem hkn);obtain⟨hc1,hc0⟩:=Aa HCO lms[q] (List.getElem_mem hkn);generalize lms[q].1=x at *;have kb:(q:Int)<(lms.length:Int):=by omega
   have hcn:=hm.cn;obtain⟨cl,nm,pa,pl,pc,r1,r2,lo,st,ca,cn,cc,ha,hl,hc,ma,ml,mc⟩:=m;simp only at y0 y1 y2 y3 y4 y5 y6 y7 y8 y9 hcn;subst hcn;have hBM:=hB.alloc hBs (O12 cl nm pa pl pc r1 r2 lo st ca x.code.length cc ha hl hc ma ml mc);have hrd:=Ju x.code ca cc bm (wr.alloc (O12 cl nm pa pl pc r1 r2 lo st ca x.code.length cc ha hl hc ma ml mc)) hc1 hc0 ((hm.below (QN (O12 cl nm pa pl pc r1 r2 lo st ca x.code.length cc ha hl hc ma ml mc))).code);have HRD:=Ac hrd;have HFQ:=Ac hfd;have HRR:=Ac hr;have CF1:=Af CF (O12 cl nm pa pl pc r1 r2 lo st ca x.code.length cc ha hl hc ma ml mc);have CZ1:=Af CZ (O12 cl nm pa pl pc r1 r2 lo st ca x.code.length cc ha hl hc ma ml mc);have CT1:=Af CT (O12 cl nm pa pl pc r1 r2 lo st ca x.code.length cc ha hl hc ma ml mc);have CM1:=Ad wr (O12 cl nm pa pl pc r1 r2 lo st ca x.code.length cc ha hl hc ma ml mc);subst hg;clear hrd hfd hr hd Aw HR;go_wp2_with fail
   refine(Aa HRD).mono ?_;rintro e w2 ⟨la,lc,rfl,hI2,hb2⟩;have hB2:=QB hBM hb2;have hs2:=hB2.size;have CF2:=stay hb2 CF1;have CZ2:=stay hb2 CZ1;have CT2:=stay hb2 CT1;have CM2:=stay hb2 CM1;have lM2:=lt_of_block CM2;have lT2:=lt_of_block CT2;have hfo:=fun w=>Rc ⟨fa1,fl1,fc1,some ⟨g,0,none⟩,lms.length,fc2,tg,tc,ya,yn,yc,cl,nm,pa,pl,pc,r1,r2,lo,st,ca,x.code.length,cc,ha,hl,hc,ma,ml,mc,la,lc,T,Cd.readL x.code⟩ w;simp only[PBd.val]at hfo;have HFO:=Ac hfo;clear hfo CF1 CZ1 CT1 CM1
   go_upto_region 6 with fail
   go_cut [9] from 17 to 45 (fun s9 wx=>∃ pb,s9=.pointer (some ⟨pb,0,none⟩)∧wx.heap[pb]?=some (O20 (some ⟨tg,0,none⟩) T.length tc ya yn yc cl nm pa pl pc r1 r2 lo st ca x.code.length cc ha hl hc ma ml mc la (Cd.readL x.code).length lc fa1 fl1 fc1 (some ⟨g,0,none⟩) lms.length fc2 (some ⟨tg,0,none⟩) T.length tc ya yn yc cl nm pa pl pc r1 r2 lo st ca x.code.length cc ha hl hc ma ml mc la (Cd.readL x.code).length lc)∧Below w2.heap.size w2 wx)
   case first =>
    go_wp2;refine wp_region_held_drew (S:=(fun w'=>(w'.cell? ⟨w.heap.size,0,none⟩=some (.slice fa1 fl1 fc1)∧w'.cell? ⟨w.heap.size,1,none⟩=some (.slice (some ⟨g,0,none⟩) lms.length fc2))∧(w'.cell? ⟨w1.heap.size,0,none⟩=some (.slice (some ⟨tg,0,none⟩) T.length tc)∧w'.cell? ⟨w1.heap.size,1,none⟩=some (.slice ya yn yc))∧w'.cell? ⟨wr.heap.size,0,none⟩=some (.int .i64 cl)∧w'.cell? ⟨wr.heap.size,1,none⟩=some (.int .i64 nm)∧w'.cell? ⟨wr.heap.size,2,none⟩=some (.slice pa pl pc)∧w'.cell? ⟨wr.heap.size,3,none⟩=some (.int .i64 r1)∧w'.cell? ⟨wr.heap.size,4,none⟩=some (.int .i64 r2)∧w'.cell? ⟨wr.heap.size,5,none⟩=some (.int .i64 lo)∧w'.cell? ⟨wr.heap.size,6,none⟩=some (.int .i64 st)∧w'.cell? ⟨wr.heap.size,7,none⟩=some (.slice ca x.code.length cc)∧w'.cell? ⟨wr.heap.size,8,none⟩=some (.slice ha hl hc)∧w'.cell? ⟨wr.heap.size,9,none⟩=some (.slice ma ml mc))) (by kernel_rfl) (Au CF2 CT2 CM2) (fun hHeld=>?_);refine wpAnyH_take (i:=0) (oi:=⟨_,_,_,_,_,_⟩) (v:=.agg #[.slice (some ⟨tg,0,none⟩) T.length tc,.slice ya yn yc]) rfl (by kernel_rfl) (by kernel_rfl) (by kernel_rfl) (fun _ _ _ h=>h) (Or.inl ⟨by rfl,?_⟩) hHeld ?_
    ·intro w' hSw
     try dsimp only at hSw
     go_simp
    try simp only[QX]
    refine wpAnyH_take (i:=1) (oi:=⟨_,_,_,_,_,_⟩) (v:=.agg #[.int .i64 cl,.int .i64 nm,.slice pa pl pc,.int .i64 r1,.int .i64 r2,.int .i64 lo,.int .i64 st,.slice ca x.code.length cc,.slice ha hl hc,.slice ma ml mc]) rfl (by kernel_rfl) (by kernel_rfl) (by kernel_rfl) (fun _ _ _ h=>h) (Or.inl ⟨by rfl,?_⟩) hHeld ?_
    ·intro w' hSw
     try dsimp only at hSw
     go_simp
    try simp only[QX]
    refine wpAnyH_take (i:=2) (oi:=⟨_,_,_,_,_,_⟩) (v:=.slice la (Cd.readL x.code).length lc) rfl (by kernel_rfl) (by kernel_rfl) (by kernel_rfl) (fun _ _ _ h=>h) (Or.inl ⟨by rfl,?_⟩) hHeld ?_
    ·intro w' hSw
     try dsimp only at hSw
     go_simp
    try simp only[QX]
    refine wpAnyH_take (i:=3) (oi:=⟨_,_,_,_,_,_⟩) (v:=.agg #[.slice fa1 fl1 fc1,.slice (some ⟨g,0,none⟩) lms.length fc2]) rfl (by kernel_rfl) (by kernel_rfl) (by kernel_rfl) (fun _ _ _ h=>h) (Or.inl ⟨by rfl,?_⟩) hHeld ?_
    ·intro w' hSw
     try dsimp only at hSw
     go_simp
    try simp only[QX]
    refine wpAnyH_take (i:=4) (oi:=⟨_,_,_,_,_,_⟩) (v:=.agg #[.slice (some ⟨tg,0,none⟩) T.length tc,.slice ya yn yc]) rfl (by kernel_rfl) (by kernel_rfl) (by kernel_rfl) (fun _ _ _ h=>h) (Or.inl ⟨by rfl,?_⟩) hHeld ?_
    ·intro w' hSw
     try dsimp only at hSw
     go_simp
    try simp only[QX]
    refine wpAnyH_take (i:=5) (oi:=⟨_,_,_,_,_,_⟩) (v:=.agg #[.int .i64 cl,.int .i64 nm,.slice pa pl pc,.int .i64 r1,.int .i64 r2,.int .i64 lo,.int .i64 st,.slice ca x.code.length cc,.slice ha hl hc,.slice ma ml mc]) rfl (by kernel_rfl) (by kernel_rfl) (by kernel_rfl) (fun _ _ _ h=>h) (Or.inl ⟨by rfl,?_⟩) hHeld ?_
    ·intro w' hSw
     try dsimp only at hSw
     go_simp
    try simp only[QX]
    refine wpAnyH_take (i:=6) (oi:=⟨_,_,_,_,_,_⟩) (v:=.slice la (Cd.readL x.code).length lc) rfl (by kernel_rfl) (by kernel_rfl) (by kernel_rfl) (fun _ _ _ h=>h) (Or.inl ⟨by rfl,?_⟩) hHeld ?_
    ·intro w' hSw
     try dsimp only at hSw
     go_simp
    try simp only[QX]
    refine wpAnyH_ready (rs:=[7,9]) (by kernel_rfl) (by simp) ?_;refine AllReadyH.cons (o:=⟨_,_,_,_,_,_⟩) rfl (fun K hK=>?_) (AllReadyH.cons (o:=⟨_,_,_,_,_,_⟩) rfl (fun K hK=>?_) AllReadyH.nil)
    ·go_simp
     refine(Aa HFO _).mono ?_;rintro e w5 ⟨rfl,hb5⟩;have hs5:w2.heap.size≤w5.heap.size:=hb5.size
     try dsimp only
     clear hHeld;refine hK.out _ _ (Au (by exact stay hb5 (show w2.drew.heap[_]?=_ from CF2)) (by exact stay hb5 (show w2.drew.heap[_]?=_ from CT2)) (by exact stay hb5 (show w2.drew.heap[_]?=_ from CM2))) (fun hHeld=>?_);clear hK K
     try simp only[QX]
     refine wpAnyH_take (i:=8) (oi:=⟨_,_,_,_,_,_⟩) (v:=.agg #[.slice (some ⟨tg,0,none⟩) T.length tc,.slice ya yn yc,.int .i64 cl,.int .i64 nm,.slice pa pl pc,.int .i64 r1,.int .i64 r2,.int .i64 lo,.int .i64 st,.slice ca x.code.length cc,.slice ha hl hc,.slice ma ml mc,.slice la (Cd.readL x.code).length lc,.slice fa1 fl1 fc1,.slice (some ⟨g,0,none⟩) lms.length fc2,.slice (some ⟨tg,0,none⟩) T.length tc,.slice ya yn yc,.int .i64 cl,.int .i64 nm,.slice pa pl pc,.int .i64 r1,.int .i64 r2,.int .i64 lo,.int .i64 st,.slice ca x.code.length cc,.slice ha hl hc,.slice ma ml mc,.slice la (Cd.readL x.code).length lc]) rfl (by kernel_rfl) (by kernel_rfl) (by kernel_rfl) (fun _ _ _ h=>h) (Or.inl ⟨by rfl,?_⟩) hHeld ?_
     ·intro w' hSw
      try dsimp only at hSw
      go_simp
     try simp only[QX]
     refine wpAnyH_ready (rs:=[9]) (by kernel_rfl) (by simp) ?_;refine AllReadyH.cons (o:=⟨_,_,_,_,_,_⟩) rfl (fun K hK=>?_) AllReadyH.nil
     go_simp
     clear hHeld;refine hK.out _ _ (Au (by exact Af (stay hb5 (show w2.drew.heap[_]?=_ from CF2)) _) (by exact Af (stay hb5 (show w2.drew.heap[_]?=_ from CT2)) _) (by exact Af (stay hb5 (show w2.drew.heap[_]?=_ from CM2)) _)) (fun hHeld=>?_);clear hK K
     try simp only[QX]
     have HPB:=Ad w5 (O20 none 0 0 none 0 0 0 0 none 0 0 0 0 0 0 none 0 0 none 0 0 none 0 0 none 0 0 none 0 0 none 0 0 none 0 0 none 0 0 0 0 none 0 0 0 0 0 0 none 0 0 none 0 0 none 0 0 none 0 0);refine wpAnyH_ready (rs:=[10]) (by kernel_rfl) (by simp) ?_;refine AllReadyH.cons (o:=⟨_,_,_,_,_,_⟩) rfl (fun K hK=>?_) AllReadyH.nil;refine Ay (by rfl) 212 _ _ (by rfl) w5.heap.size #[.slice (some ⟨tg,0,none⟩) T.length tc,.slice ya yn yc,.int .i64 cl,.int .i64 nm,.slice pa pl pc,.int .i64 r1,.int .i64 r2,.int .i64 lo,.int .i64 st,.slice ca x.code.length cc,.slice ha hl hc,.slice ma ml mc,.slice la (Cd.readL x.code).length lc,.slice fa1 fl1 fc1,.slice (some ⟨g,0,none⟩) lms.length fc2,.slice (some ⟨tg,0,none⟩) T.length tc,.slice ya yn yc,.int .i64 cl,.int .i64 nm,.slice pa pl pc,.int .i64 r1,.int .i64 r2,.int .i64 lo,.int .i64 st,.slice ca x.code.length cc,.slice ha hl hc,.slice ma ml mc,.slice la (Cd.readL x.code).length lc] (by rfl) (by rfl) 212 _ HPB Tryz.infoPass (by rfl) (by simp[Value.oneCell']) ?_;clear hHeld;refine hK.out _ _ (Au ((Aj (by omega)).trans (Af (stay hb5 (show w2.drew.heap[_]?=_ from CF2)) _)) ((Aj (by omega)).trans (Af (stay hb5 (show w2.drew.heap[_]?=_ from CT2)) _)) ((Aj (by omega)).trans (Af (stay hb5 (show w2.drew.heap[_]?=_ from CM2)) _))) (fun hHeld=>?_);clear hK K
     try simp only[Act.put]
     refine wpAnyH_done (by kernel_rfl) ?_ _;go_wp2
     go_meet
     case rel=>exact⟨w5.heap.size,rfl,Ce HPB,Dc (((Below.refl _ _).drew.trans hb5).alloc hs5 _) hs5 _⟩
    ·go_simp
     clear hHeld;refine hK.out _ _ (Au (by exact Af (show w2.drew.heap[_]?=_ from CF2) _) (by exact Af (show w2.drew.heap[_]?=_ from CT2) _) (by exact Af (show w2.drew.heap[_]?=_ from CM2) _)) (fun hHeld=>?_);clear hK K
     try simp only[QX]
     refine wpAnyH_ready (rs:=[7]) (by kernel_rfl) (by simp) ?_;refine AllReadyH.cons (o:=⟨_,_,_,_,_,_⟩) rfl (fun K hK=>?_) AllReadyH.nil
     go_simp
     refine(Aa HFO _).mono ?_;rintro e w5 ⟨rfl,hb5⟩;have hs5:w2.heap.size+1≤w5.heap.size:=by have:=hb5.size;simp at this;exact this
     try dsimp only
     clear hHeld;refine hK.out _ _ (Au (by exact stay hb5 (Af (show w2.drew.heap[_]?=_ from CF2) _)) (by exact stay hb5 (Af (show w2.drew.heap[_]?=_ from CT2) _)) (by exact stay hb5 (Af (show w2.drew.heap[_]?=_ from CM2) _))) (fun hHeld=>?_);clear hK K
     try simp only[QX]
     refine wpAnyH_take (i:=8) (oi:=⟨_,_,_,_,_,_⟩) (v:=.agg #[.slice (some ⟨tg,0,none⟩) T.length tc,.slice ya yn yc,.int .i64 cl,.int .i64 nm,.slice pa pl pc,.int .i64 r1,.int .i64 r2,.int .i64 lo,.int .i64 st,.slice ca x.code.length cc,.slice ha hl hc,.slice ma ml mc,.slice la (Cd.readL x.code).length lc,.slice fa1 fl1 fc1,.slice (some ⟨g,0,none⟩) lms.length fc2,.slice (some ⟨tg,0,none⟩) T.length tc,.slice ya yn yc,.int .i64 cl,.int .i64 nm,.slice pa pl pc,.int .i64 r1,.int .i64 r2,.int .i64 lo,.int .i64 st,.slice ca x.code.length cc,.slice ha hl hc,.slice ma ml mc,.slice la (Cd.readL x.code).length lc]) rfl (by kernel_rfl) (by kernel_rfl) (by kernel_rfl) (fun _ _ _ h=>h) (Or.inl ⟨by rfl,?_⟩) hHeld ?_
     ·intro w' hSw
      try dsimp only at hSw
      go_simp
     try simp only[QX]
     have HPB:=stay hb5 (Ad w2.drew (O20 none 0 0 none 0 0 0 0 none 0 0 0 0 0 0 none 0 0 none 0 0 none 0 0 none 0 0 none 0 0 none 0 0 none 0 0 none 0 0 0 0 none 0 0 0 0 0 0 none 0 0 none 0 0 none 0 0 none 0 0));refine wpAnyH_ready (rs:=[10]) (by kernel_rfl) (by simp) ?_;refine AllReadyH.cons (o:=⟨_,_,_,_,_,_⟩) rfl (fun K hK=>?_) AllReadyH.nil;refine Ay (by rfl) 212 _ _ (by rfl) w2.heap.size #[.slice (some ⟨tg,0,none⟩) T.length tc,.slice ya yn yc,.int .i64 cl,.int .i64 nm,.slice pa pl pc,.int .i64 r1,.int .i64 r2,.int .i64 lo,.int .i64 st,.slice ca x.code.length cc,.slice ha hl hc,.slice ma ml mc,.slice la (Cd.readL x.code).length lc,.slice fa1 fl1 fc1,.slice (some ⟨g,0,none⟩) lms.length fc2,.slice (some ⟨tg,0,none⟩) T.length tc,.slice ya yn yc,.int .i64 cl,.int .i64 nm,.slice pa pl pc,.int .i64 r1,.int .i64 r2,.int .i64 lo,.int .i64 st,.slice ca x.code.length cc,.slice ha hl hc,.slice ma ml mc,.slice la (Cd.readL x.code).length lc] (by rfl) (by rfl) 212 _ HPB Tryz.infoPass (by rfl) (by simp[Value.oneCell']) ?_;clear hHeld;refine hK.out _ _ (Au ((Aj (by omega)).trans (stay hb5 (Af (show w2.drew.heap[_]?=_ from CF2) _))) ((Aj (by omega)).trans (stay hb5 (Af (show w2.drew.heap[_]?=_ from CT2) _))) ((Aj (by omega)).trans (stay hb5 (Af (show w2.drew.heap[_]?=_ from CM2) _)))) (fun hHeld=>?_);clear hK K
     try simp only[Act.put]
     refine wpAnyH_done (by kernel_rfl) ?_ _;go_wp2
     go_meet
     case rel=>exact⟨w2.heap.size,rfl,Ce HPB,Dc ((((Below.refl _ _).drew).alloc (Nat.le_refl _) _).trans (hb5.mono (by simp))) (Nat.le_refl _) _⟩
   case rest =>
    obtain⟨pb,rfl,CP,hb6⟩:=hcut;have hB6:=hB2.trans (hb6.mono hs2);have hs6:=hB6.size;have hbr:Below wr.heap.size wr wc:=((QN (O12 cl nm pa pl pc r1 r2 lo st ca x.code.length cc ha hl hc ma ml mc)).trans (hb2.mono (by simp))).trans (hb6.mono (by have:=hb2.size;simp at this;omega));have CF6:=stay hb6 CF2;have CZ6:=stay hb6 CZ2;have CT6:=stay hb6 CT2;have hI6:=hI2.kp (Kp.of_below (e:=none) hb6) (by decide);have hTr6:=hTr.below hbr;have hYr6:=Am hYr (Kp.of_below (e:=none) hbr) (by decide);have hfd:=Aa HFQ ⟨fa1,fl1,fc1,some ⟨g,0,none⟩,lms.length,fc2,tg,tc,ya,yn,yc,cl,nm,pa,pl,pc,r1,r2,lo,st,ca,x.code.length,cc,ha,hl,hc,ma,ml,mc,la,lc,T,Cd.readL x.code⟩ _ wc hB6 rfl rfl rfl rfl rfl rfl rfl rfl hTr6 hYr6 (hm.below hbr) hI6;simp only[PBd.pval]at hfd;have hr:=Aa HRR;generalize FR x=fr at *;obtain⟨fr1,fr2⟩:=fr;simp only at hfd hr;have HFE:=Ac hfd;have lZ6:=lt_of_block CZ6;clear hfd HRR HFQ HRD HFO CF2 CZ2 CT2 CM2 hI2 hb2 hb6 hB2 hm hI6 lM2 lT2 y0 y1 y2 y3 y4 y5 y6 y7 y8 y9;by_cases h0:fr1=0
    ·rw[if_neg (by simpa using h0)]at hr;have HG:Hid (Agb FR (q+1) ((lms.map Prod.fst).drop (q+1))=R):=hr;subst h0;clear hr;go_wp2_with (refine wpList_load_row (by rfl) 212 (.tmp 9) (by rfl) pb (by rfl) 212 _ (0,0) _ CP Tryz.underlying212 (by rfl) Tryz.infoPass ?_)
     refine(Aa HFE).mono ?_;rintro e w7 ⟨rfl,hb7⟩;have hB7:=hB6.trans (hb7.mono hs6);go_wp2
     go_roundw
     case rel=>exact⟨q+1,by omega,by go_num,HG,hB7.alloc hB7.size _,Af (stay hb7 CF6) _,Af (stay hb7 CZ6) _,Af (stay hb7 CT6) _,(hTr6.below hb7).below (QN _),Am (Am hYr6 (Kp.of_below (e:=none) hb7) (by decide)) (Kp.of_below (e:=none) (QN _)) (by decide)⟩
     case measure=>simp[intOf];omega
    ·rw[if_pos h0]at hr;obtain rfl:=hr;have h0':(fr1 != 0)=true:=by simpa using h0
     clear h0;go_wp2_with (refine wpList_load_row (by rfl) 212 (.tmp 9) (by rfl) pb (by rfl) 212 _ (0,0) _ CP Tryz.underlying212 (by rfl) Tryz.infoPass ?_)
     refine(Aa HFE).mono ?_;rintro e w7 ⟨rfl,hb7⟩;have hB7:=hB6.trans (hb7.mono hs6);have hs7:=hB7.size;have CZ7:=stay hb7 CZ6;obtain⟨z0,z1,z2⟩:=cl3 CZ7;simp at z0 z1 z2;obtain⟨q0,q1,q2⟩:=fr3 CZ7;have lr:=lt_of_block CZ7;clear hb7;go_wp2_with fail
     refine bodyPost_ret (v:=.agg #[.int .i64 fr1,.int .i64 (q:Int),.int .i64 fr2]) (by simp[results,Tryz.results80,go_sem,z0,z1,z2,lr]) rfl ?_;exact⟨rfl,by repeat (first | refine Below.setCell ?_ (by simp;omega) _ | refine Below.setCell ?_ (by simp) _ | refine Below.alloc ?_ (by first | omega | (simp;omega)) _ | exact hB7)⟩
  ·have hr:=Aa HR;rw[List.drop_eq_nil_of_le (by simp;omega),Agb]at hr;obtain rfl:=hr;have kb:¬ (q:Int)<(lms.length:Int):=by omega
   obtain⟨z0,z1,z2⟩:=cl3 CZ;simp at z0 z1 z2;obtain⟨q0,q1,q2⟩:=fr3 CZ;have lr:=lt_of_block CZ;clear HR;go_wp2_with fail
   refine bodyPost_ret (v:=.agg #[.int .i64 0,.int .i64 0,.int .i64 0]) (by simp[results,Tryz.results80,go_sem,z0,z1,z2]) rfl ?_;exact⟨rfl,by repeat (first | refine Below.setCell ?_ (by simp) _ | exact hB)⟩
def Ahw (P V:Int × Int × Int):Int × Int × Int:=if P.1≠0 then P else if V.1≠0 then V else (0,0,0)
theorem Adw {w:World}{k:Nat}{a b c:Int} (h:w.heap[k]?=some (O8 a b c)):w.cell? ⟨k,0,none⟩=some (.int .i64 a)∧w.cell? ⟨k,1,none⟩=some (.int .i64 b)∧w.cell? ⟨k,2,none⟩=some (.int .i64 c):=by
 refine⟨?_,?_,?_⟩
 all_goals (rw[Ab h];rfl)
theorem Pa (s:ByteArray) (V:Int × Int × Int) (w:World) (hs:s.size≤maxLen)
  (hFl:(Aga s.data.toList).1=0→∀ a1 n1 c1 a2 n2 c2 bm lcs lms w',Below w.heap.size w w'→lcs.map Prod.fst=(Rd.read s.data.toList).1.classes→ClssIn w' bm (.slice a1 n1 c1) lcs→lms.map Prod.fst=(Rd.read s.data.toList).1.methods→MthsIn w' bm (.slice a2 n2 c2) lms →
   Calls Tryz.prog 80 #[.agg #[.slice a1 n1 c1,.slice a2 n2 c2]] w' fun e w''=>e=.returned (.agg #[.int .i64 V.1,.int .i64 V.2.1,.int .i64 V.2.2])∧Below w'.heap.size w' w'') :
  Calls Tryz.prog 53 #[.string s] w fun e w'=>∃ a1 n1 c1 a2 n2 c2,e=.returned (.tuple #[.agg #[.slice a1 n1 c1,.slice a2 n2 c2],.agg #[.int .i64 (Ahw (Aga s.data.toList) V).1,.int .i64 (Ahw (Aga s.data.toList) V).2.1,.int .i64 (Ahw (Aga s.data.toList) V).2.2]]) ∧
    ((Ahw (Aga s.data.toList) V).1=0→∃ bm lcs lms,lcs.map Prod.fst=(Rd.read s.data.toList).1.classes∧ClssIn w' bm (.slice a1 n1 c1) lcs∧lms.map Prod.fst=(Rd.read s.data.toList).1.methods∧MthsIn w' bm (.slice a2 n2 c2) lms)∧Below w.heap.size w w':=by
 have hRd:=fun w=>On s w hs;unfold Ahw;generalize Aga s.data.toList=P at *;generalize Rd.read s.data.toList=q at *;obtain⟨P1,P2,P3⟩:=P;obtain⟨V1,V2,V3⟩:=V;simp only at hRd hFl ⊢;have HRD:=Ac hRd;have HFL:=Ac hFl;clear hRd hFl;have hB0:=Ai w (O1 none 0 0 none 0 0) (O8 0 0 0);have C0:=Ak w (O1 none 0 0 none 0 0) (O8 0 0 0);have D0:=Ah w (O1 none 0 0 none 0 0) (O8 0 0 0);by_cases h1:P1=0
 ·subst h1;by_cases h2:V1=0
  ·subst h2;simp only[ne_eq,not_true_eq_false,if_false];go_enter Tryz.func53,Tryz.ntmps53;go_wp2_with fail
   refine(Aa HRD _).mono ?_;rintro e w1 ⟨a1,n1,c1,a2,n2,c2,rfl,hrep,hb1⟩;obtain⟨lcs,lms,hl1,hcs,hl2,hms⟩:=hrep (by trivial);have hB1:=QB hB0 hb1;have hs1:=hB1.size;have C1:=stay hb1 C0;have D1:=stay hb1 D0;have lD1:=lt_of_block D1;have hBx:Below w1.heap.size w1 ((w1.alloc (O1 a1 n1 c1 a2 n2 c2)).alloc (O8 0 P2 P3)):=Ai _ _ _;have hB2:=hB1.trans (hBx.mono hs1);have hcs2:=hcs.kp (Kp.of_below (e:=none) hBx) (by decide) (by decide);have hms2:=hms.kp (Kp.of_below (e:=none) hBx) (by decide) (by decide) (by decide) (by decide) (by decide);have hfl:=Aa HFL (by trivial) a1 n1 c1 a2 n2 c2 _ lcs lms _ hB2 hl1 hcs2 hl2 hms2;have HF:=Ac hfl;have FB2:=Ak w1 (O1 a1 n1 c1 a2 n2 c2) (O8 0 P2 P3);have FA2:=Ah w1 (O1 a1 n1 c1 a2 n2 c2) (O8 0 P2 P3);have C2:=Af (Af C1 (O1 a1 n1 c1 a2 n2 c2)) (O8 0 P2 P3);have D2:=Af (Af D1 (O1 a1 n1 c1 a2 n2 c2)) (O8 0 P2 P3);have HL1:=Ac hl1;have HL2:=Ac hl2;clear hfl HFL HRD hb1 C0 D0 C1 D1 hcs hms hl1 hl2 hrep;go_wp2_with fail
   refine(Aa HF).mono ?_;rintro e w3 ⟨rfl,hb3⟩;have hB3:=QB hB2 hb3;have hs3:=hB3.size;have C3:=stay hb3 C2;have D3:=stay hb3 D2;have FB3:=stay hb3 FB2;have FA3:=stay hb3 FA2;have hcs3:=hcs2.kp (Kp.of_below (e:=none) hb3) (by decide) (by decide);have hms3:=hms2.kp (Kp.of_below (e:=none) hb3) (by decide) (by decide) (by decide) (by decide) (by decide);obtain⟨b0,b1⟩:=cl2 FB3;obtain⟨k0,k1,k2⟩:=cl3 FA3;obtain⟨j0,j1,j2⟩:=fr3 FA3;have lA:=lt_of_block FA3;have lB:=lt_of_block FB3;simp at b0 b1 k0 k1 k2;have c0:=Ab C3 0;have c1':=Ab C3 1;obtain⟨d0,d1,d2⟩:=cl3 D3;obtain⟨e0,e1⟩:=fr2 C3;obtain⟨g0,g1,g2⟩:=fr3 D3;have lC:=lt_of_block C3;have lD:=lt_of_block D3;simp at c0 c1' d0 d1 d2;clear hb3 C2 D2 FB2 FA2 HF;have K1:=Kp.set (b:=w.heap.size+2) (i:=0) FA3 (.int .i64 0);have K2:=Kp.set (b:=w.heap.size+2) (i:=1) (Al (i:=0) FA3 (.int .i64 0)) (.int .i64 V2);have K3:=Kp.set (b:=w.heap.size+2) (i:=2) (Al (i:=1) (Al (i:=0) FA3 (.int .i64 0)) (.int .i64 V2)) (.int .i64 V3);have KK:=((((((K1.trans K2).trans K3).trans (Kp.set_lo (i:=0) (g:=w.heap.size) (by omega) (.slice a1 n1 c1))).trans (Kp.set_lo (i:=1) (g:=w.heap.size) (by omega) (.slice a2 n2 c2))).trans (Kp.set_lo (i:=0) (g:=w.heap.size+1) (by omega) (.int .i64 0))).trans (Kp.set_lo (i:=1) (g:=w.heap.size+1) (by omega) (.int .i64 0))).trans (Kp.set_lo (i:=2) (g:=w.heap.size+1) (by omega) (.int .i64 0));have hcs4:ClssIn w3 (w.heap.size+2) (.slice a1 n1 c1) lcs:=by simpa using hcs3
   have hms4:MthsIn w3 (w.heap.size+2) (.slice a2 n2 c2) lms:=by simpa using hms3
   have hcs5:=hcs4.kp KK (by decide) (by decide);have hms5:=hms4.kp KK (by decide) (by decide) (by decide) (by decide) (by decide);clear K1 K2 K3 KK hcs4 hms4 hcs3 hms3;go_wp2_with fail
   refine bodyPost_ret (v:=.tuple #[.agg #[.slice a1 n1 c1,.slice a2 n2 c2],.agg #[.int .i64 0,.int .i64 0,.int .i64 0]]) (by simp[results,Tryz.results53,go_sem,c0,c1',d0,d1,d2]) rfl ?_;exact⟨a1,n1,c1,a2,n2,c2,rfl,fun _=>⟨_,lcs,lms,Aa HL1,hcs5,Aa HL2,hms5⟩,by repeat (first | (with_reducible exact hB3) | (with_reducible refine Below.setCell ?_ (by simp;omega) _) | (with_reducible refine Below.setCell ?_ (by simp) _))⟩
  ·have h2':(V1 != 0)=true:=by simpa using h2
   have HN2:=Ac h2;simp only[ne_eq,not_true_eq_false,if_false,h2,not_false_eq_true,if_true];clear h2;go_enter Tryz.func53,Tryz.ntmps53;go_wp2_with fail
   refine(Aa HRD _).mono ?_;rintro e w1 ⟨a1,n1,c1,a2,n2,c2,rfl,hrep,hb1⟩;obtain⟨lcs,lms,hl1,hcs,hl2,hms⟩:=hrep (by trivial);have hB1:=QB hB0 hb1;have hs1:=hB1.size;have C1:=stay hb1 C0;have D1:=stay hb1 D0;have lD1:=lt_of_block D1;have hBx:Below w1.heap.size w1 ((w1.alloc (O1 a1 n1 c1 a2 n2 c2)).alloc (O8 0 P2 P3)):=Ai _ _ _;have hB2:=hB1.trans (hBx.mono hs1);have hcs2:=hcs.kp (Kp.of_below (e:=none) hBx) (by decide) (by decide);have hms2:=hms.kp (Kp.of_below (e:=none) hBx) (by decide) (by decide) (by decide) (by decide) (by decide);have hfl:=Aa HFL (by trivial) a1 n1 c1 a2 n2 c2 _ lcs lms _ hB2 hl1 hcs2 hl2 hms2;have HF:=Ac hfl;have FB2:=Ak w1 (O1 a1 n1 c1 a2 n2 c2) (O8 0 P2 P3);have FA2:=Ah w1 (O1 a1 n1 c1 a2 n2 c2) (O8 0 P2 P3);have C2:=Af (Af C1 (O1 a1 n1 c1 a2 n2 c2)) (O8 0 P2 P3);have D2:=Af (Af D1 (O1 a1 n1 c1 a2 n2 c2)) (O8 0 P2 P3);have HL1:=Ac hl1;have HL2:=Ac hl2;clear hfl HFL HRD hb1 C0 D0 C1 D1 hcs hms hl1 hl2 hrep;go_wp2_with fail
   refine(Aa HF).mono ?_;rintro e w3 ⟨rfl,hb3⟩;have hB3:=QB hB2 hb3;have hs3:=hB3.size;have C3:=stay hb3 C2;have D3:=stay hb3 D2;have FB3:=stay hb3 FB2;have FA3:=stay hb3 FA2;have hcs3:=hcs2.kp (Kp.of_below (e:=none) hb3) (by decide) (by decide);have hms3:=hms2.kp (Kp.of_below (e:=none) hb3) (by decide) (by decide) (by decide) (by decide) (by decide);obtain⟨b0,b1⟩:=cl2 FB3;obtain⟨k0,k1,k2⟩:=cl3 FA3;obtain⟨j0,j1,j2⟩:=fr3 FA3;have lA:=lt_of_block FA3;have lB:=lt_of_block FB3;simp at b0 b1 k0 k1 k2;have c0:=Ab C3 0;have c1':=Ab C3 1;obtain⟨d0,d1,d2⟩:=cl3 D3;obtain⟨e0,e1⟩:=fr2 C3;obtain⟨g0,g1,g2⟩:=fr3 D3;have lC:=lt_of_block C3;have lD:=lt_of_block D3;simp at c0 c1' d0 d1 d2;clear hb3 C2 D2 FB2 FA2 HF;clear hcs3 hms3 HL1 HL2;go_wp2
   go_region
   all_goals
    go_wp2_with fail
    refine bodyPost_ret (v:=.tuple #[.agg #[.slice none 0 0,.slice none 0 0],.agg #[.int .i64 V1,.int .i64 V2,.int .i64 V3]]) (by simp[results,Tryz.results53,go_sem,c0,c1',d0,d1,d2]) rfl ?_;exact⟨none,0,0,none,0,0,rfl,fun h=>(by first | exact False.elim h | exact absurd h (Aa HN2)),by repeat (first | (with_reducible exact hB3) | (with_reducible refine Below.drew ?_) | (with_reducible refine Below.setCell ?_ (by simp;omega) _) | (with_reducible refine Below.setCell ?_ (by simp) _))⟩
 ·have h1':(P1 != 0)=true:=by simpa using h1
  have HN1:=Ac h1;simp only[ne_eq,h1,not_false_eq_true,if_true];go_enter Tryz.func53,Tryz.ntmps53;go_wp2_with fail
  refine(Aa HRD _).mono ?_;rintro e w1 ⟨a1,n1,c1,a2,n2,c2,rfl,-,hb1⟩;have hB1:=QB hB0 hb1;have hs1:=hB1.size;have C1:=stay hb1 C0;have D1:=stay hb1 D0;have c0:=Ab C1 0;have c1':=Ab C1 1;obtain⟨d0,d1,d2⟩:=cl3 D1;obtain⟨e0,e1⟩:=fr2 C1;obtain⟨g0,g1,g2⟩:=fr3 D1;have lC:=lt_of_block C1;have lD:=lt_of_block D1;simp at c0 c1' d0 d1 d2;have FA2:=Ad (w1.alloc (O1 a1 n1 c1 a2 n2 c2)) (O8 P1 P2 P3);have s0:=Adw FA2;clear h1 HFL HRD hb1;go_wp2
  go_region
  all_goals
   go_wp2_with fail
   refine bodyPost_ret (v:=.tuple #[.agg #[.slice none 0 0,.slice none 0 0],.agg #[.int .i64 P1,.int .i64 P2,.int .i64 P3]]) (by simp[results,Tryz.results53,go_sem,c0,c1',d0,d1,d2,lC,lD]) rfl ?_;exact⟨none,0,0,none,0,0,rfl,fun h=>(by first | exact False.elim h | exact absurd h (Aa HN1)),by repeat (first | (with_reducible exact hB1) | (with_reducible refine Below.drew ?_) | (with_reducible refine Below.alloc ?_ (by simp;omega) _) | (with_reducible refine Below.setCell ?_ (by simp) _))⟩
theorem Zj (s:ByteArray) (V:Int × Int × Int) (w:World) (hs:s.size≤maxLen)
  (hFl:(Aga s.data.toList).1=0→∀ a1 n1 c1 a2 n2 c2 bm lcs lms w',Below w.heap.size w w'→lcs.map Prod.fst=(Rd.read s.data.toList).1.classes→ClssIn w' bm (.slice a1 n1 c1) lcs→lms.map Prod.fst=(Rd.read s.data.toList).1.methods→MthsIn w' bm (.slice a2 n2 c2) lms →
   Calls Tryz.prog 80 #[.agg #[.slice a1 n1 c1,.slice a2 n2 c2]] w' fun e w''=>e=.returned (.agg #[.int .i64 V.1,.int .i64 V.2.1,.int .i64 V.2.2])∧Below w'.heap.size w' w'') :
  Calls Tryz.prog 20 #[.string s] w fun e w'=>e=.returned (.tuple #[.int .i64 (Ahw (Aga s.data.toList) V).1,.int .i64 (Ahw (Aga s.data.toList) V).2.1,.int .i64 (Ahw (Aga s.data.toList) V).2.2])∧Below w.heap.size w w':=by
 have hc:=Pa s V w hs hFl;generalize Ahw (Aga s.data.toList) V=R at *;obtain⟨R1,R2,R3⟩:=R;simp only at hc ⊢;have HC:=Ac hc;clear hc hFl;go_enter Tryz.func20,Tryz.ntmps20;go_wp2_with fail
 refine(Aa HC).mono ?_;rintro e w1 ⟨a1,n1,c1,a2,n2,c2,rfl,-,hb1⟩;have hB2:=(hb1.alloc hb1.size (O1 a1 n1 c1 a2 n2 c2)).alloc (by have:=hb1.size;simp;omega) (O8 R1 R2 R3);go_wp2
 go_region
 all_goals
  go_wp2;go_ret3;exact⟨rfl,hB2.drew⟩
def Agx (CR:Rd.Mth→Int × Int):Nat→List Rd.Mth→Int × Int × Int
 | _,[]=>(0,0,0)
 | k,m::r=>if (CR m).1≠0 then ((CR m).1,(k:Int),(CR m).2) else Agx CR (k+1) r
def Ajb (P V:Int × Int × Int):Int × Int × Int:=if P.1≠0 then P else V
def Afy (T:List Int) (x:Afb):Prop:=(∀ t∈x.locals,Tr.Arg T t.1 t.2)∧∀ t∈x.stack,Tr.Arg T t.1 t.2
theorem Rg (T:List Int) (a b:List (Int × Int)) (h:a.length=b.length):Age T a b=Aio T a b:=by
 unfold Age;rw[if_neg (by omega),h,Nat.sub_self,List.drop_zero]
theorem Ez {T:List Int} (hT:Tr.Ok T) {x y:Afb} (hx:Afy T x) (hy:Afy T y):Afh T x y=Agv T x y:=by
 unfold Afh Agv Ah9;by_cases h1:x.stack.length=y.stack.length
 ·rw[if_neg (fun g=>g h1),if_pos h1];by_cases h2:x.locals.length=y.locals.length
  ·rw[if_neg (fun g=>g h2),if_pos h2,Rg T _ _ h2,Rg T _ _ h1,Dy hT _ _ hx.1 hy.1,Dy hT _ _ hx.2 hy.2]
  ·rw[if_pos h2,if_neg h2];rfl
 ·rw[if_pos h1,if_neg h1,Bool.and_false]
theorem Abi (T:List Int) (cs:List Rd.Cls) (h7:7≤cs.length) (hg:∀ i,i<7→(cs.getD i ⟨0,[]⟩).fields=[]) (ms:List Rd.Mth) (res:Int × Int) (op:Int) (n:Nat) (hn:op=17∨op=18→n<(Rf.fieldsTo T cs (cs.length-7)).length) :
  Ag2 (cs.map Rd.Cls.fields) ms res op (n:Int)=Ahy (Rf.fieldsTo T cs (cs.length-7)) ms res op (n:Int):=by
 unfold Ag2 Ahy;by_cases h17:op=17
 ·subst h17;rw[Lv T cs h7 hg n (hn (.inl rfl)),Int.toNat_natCast]
 ·by_cases h18:op=18
  ·subst h18;rw[Lv T cs h7 hg n (hn (.inr rfl)),Int.toNat_natCast]
  ·simp only[h17,h18,if_false]
theorem W2 (T:List Int) (cs:List Rd.Cls) (h7:7≤cs.length) (hg:∀ i,i<7→(cs.getD i ⟨0,[]⟩).fields=[]) (ms:List Rd.Mth) (op:Int) (n:Nat) (hn:op=17→n<(Rf.fieldsTo T cs (cs.length-7)).length) :
  Agp (cs.map Rd.Cls.fields) ms op (n:Int)=Ahd (Rf.fieldsTo T cs (cs.length-7)) ms op (n:Int):=by
 unfold Agp Ahd;by_cases h17:op=17
 ·subst h17;rw[Lv T cs h7 hg n (hn rfl),Int.toNat_natCast]
  simp
 ·simp only[h17,if_false];have:(op=0∨op=24∨op=7∨op=8∨op=9∨op=10)↔(op=0∨op=7∨op=8∨op=9∨op=10∨op=24):=by omega
  simp only[this]
theorem Jk {T:List Int}{mp:Int→Option Afb}{x:Afb}{q:Int} (h:mp q=none):Ag6 T mp x q=true:=by unfold Ag6;rw[h];rfl
theorem Eu {T:List Int} (hT:Tr.Ok T) {mp:Int→Option Afb}{x z:Afb}{q:Int} (h:mp q=some z) (hx:Afy T x) (hz:Afy T z):Ag6 T mp x q=Afh T x z:=by
 unfold Ag6;rw[h,Ez hT hx hz];rfl
theorem Of {T:List Int}{mp:Int→Option Afb}{x:Afb}{q:Int} (h:mp q=none):Ahh T mp x q=8:=by unfold Ahh;rw[h];rfl
theorem Ro {T:List Int} (hT:Tr.Ok T) {mp:Int→Option Afb}{x z:Afb}{q:Int} (h:mp q=some z) (hx:Afy T x) (hz:Afy T z) (hf:Afh T x z=false):Ahh T mp x q=9:=by
 unfold Ahh;rw[if_neg (by rw[h];simp),if_pos (by rw[Eu hT h hx hz];exact hf)]
theorem Ou {T:List Int} (hT:Tr.Ok T) {mp:Int→Option Afb}{x z:Afb}{q:Int} (h:mp q=some z) (hx:Afy T x) (hz:Afy T z) (hf:Afh T x z=true):Ahh T mp x q=0:=by
 unfold Ahh;rw[if_neg (by rw[h];simp),if_neg (by rw[Eu hT h hx hz,hf];simp)]
theorem Lb {T:List Int} (hT:Tr.Ok T) (mp:Int→Option Afb) (hmp:∀ q z,mp q=some z→Afy T z) (p:Int) (lo:List (Int × Int)) (hlo:∀ t∈lo,Tr.Arg T t.1 t.2):∀ hs:List Rd.Hnd,(∀ h∈hs,Tr.Arg T 3 h.cl) →
  Ago T mp p lo hs=Ahk T mp p lo hs
 | [],_=>rfl
 | h::r,hh=>by
  have ih:=Lb hT mp hmp p lo hlo r (fun x hx=>hh x (by simp[hx]));rw[Ago,Ahk,ih];unfold Af2;by_cases h1:p<h.frm
  ·have e:decide (h.frm≤p)=false:=by simp;omega
   rw[e,Bool.false_and,if_pos rfl,if_pos h1]
  ·have e:decide (h.frm≤p)=true:=by simp;omega
   rw[e,Bool.true_and,if_neg h1];by_cases h2:h.til≤p
   ·have e2:decide (p<h.til)=false:=by simp;omega
    rw[e2,if_pos rfl,if_pos h2]
   ·have e2:decide (p<h.til)=true:=by simp;omega
    rw[e2,if_neg (by simp),if_neg h2];cases hm:mp h.target with
    | none =>
     rw[Of hm,if_pos (show (8:Int)≠0 by decide),if_pos (show (none:Option Afb).isSome=false from rfl)]
    | some z =>
     have hx:Afy T ⟨lo,[(3,h.cl)]⟩:=⟨hlo,fun t ht=>by obtain rfl:=List.mem_singleton.1 ht;exact hh h (by simp)⟩;have e3:Afs (some z)=z:=rfl;rw[e3,if_neg (show ¬ (some z).isSome=false by simp)];cases hf:Afh T ⟨lo,[(3,h.cl)]⟩ z with
     | false=>rw[Ro hT hm hx (hmp _ _ hm) hf,if_pos (show (9:Int)≠0 by decide),if_pos rfl]
     | true=>rw[Ou hT hm hx (hmp _ _ hm) hf,if_neg (show ¬ (0:Int)≠0 by decide),if_neg (show ¬ true=false by decide)]
theorem Acm {T:List Int} (hT:Tr.Ok T) (mp:Int→Option Afb) (hmp:∀ q z,mp q=some z→Afy T z) (H:Int) (B:Option Afb) (hB:∀ y,B=some y→Afy T y) (op n nxt len:Int):Ajd T mp H B op n nxt len=Aif T mp H B op n nxt len:=by
 unfold Ajd Aif;by_cases h0:H≠0
 ·rw[if_pos h0,if_pos h0]
 ·rw[if_neg h0,if_neg h0];cases B with
  | none=>rfl
  | some y =>
   have hy:=hB y rfl;have e:Afs (some y)=y:=rfl;rw[if_neg (show ¬ (some y).isSome=false by simp),if_neg (show ¬ (some y).isSome=false by simp),e];have hgo:(if Af5 op=false then 0 else Aje T mp len y nxt)=(if Af5 op=false then 0 else if len≤nxt then 11 else if (mp nxt).isSome=true∧Afh T y (Afs (mp nxt))=false then 9 else 0):=by
    by_cases hg:Af5 op=false
    ·rw[if_pos hg,if_pos hg]
    ·rw[if_neg hg,if_neg hg];unfold Aje;by_cases hl:len≤nxt
     ·rw[if_pos hl,if_pos hl]
     ·rw[if_neg hl,if_neg hl];cases hm:mp nxt with
      | none=>rw[Jk hm,if_neg (by simp),if_neg (by simp)]
      | some z =>
       have e3:Afs (some z)=z:=rfl;rw[Eu hT hm hy (hmp _ _ hm),e3];cases hf:Afh T y z with
       | false=>rw[if_pos rfl,if_pos ⟨rfl,rfl⟩]
       | true=>rw[if_neg (by simp),if_neg (by simp)]
   cases hj:Afx op with
   | false=>rw[if_neg (show ¬ (false=true∧Ahh T mp y n≠0) by simp),if_neg (show ¬ (false=true∧(mp n).isSome=false) by simp),if_neg (show ¬ (false=true∧Afh T y (Afs (mp n))=false) by simp)];exact hgo
   | true =>
    cases hm:mp n with
    | none=>rw[Of hm,if_pos (show true=true∧(8:Int)≠0 by decide),if_pos (show true=true∧(none:Option Afb).isSome=false from ⟨rfl,rfl⟩)]
    | some z =>
     have e3:Afs (some z)=z:=rfl;rw[e3];cases hf:Afh T y z with
     | false=>rw[Ro hT hm hy (hmp _ _ hm) hf,if_pos (show true=true∧(9:Int)≠0 by decide),if_neg (show ¬ (true=true∧(some z).isSome=false) by simp),if_pos (show true=true∧false=false from ⟨rfl,rfl⟩)]
     | true =>
      rw[Ou hT hm hy (hmp _ _ hm) hf,if_neg (show ¬ (true=true∧(0:Int)≠0) by decide),if_neg (show ¬ (true=true∧(some z).isSome=false) by simp),if_neg (show ¬ (true=true∧true=false) by decide)];exact hgo
theorem Nj (c:List Int):∀ (k p:Nat),(∀ q∈Cd.starts c k p,p≤q)∧(Cd.starts c k p).Pairwise (· < ·)
 | 0,p=>by simp[Cd.starts]
 | k+1,p=>by
  have hw:=Cd.wd_bd (c.getD p 0);obtain⟨h1,h2⟩:=Nj c k (p+Cd.wd (c.getD p 0));unfold Cd.starts
  split
  ·refine⟨fun q hq=>?_,List.pairwise_cons.2 ⟨fun q hq=>?_,h2⟩⟩
   ·rcases List.mem_cons.1 hq with rfl|hq
    ·exact Nat.le_refl _
    ·have:=h1 q hq;omega
   ·have:=h1 q hq;omega
  ·simp
theorem Oc (c:List Int):(Cd.places c).Pairwise (· < ·):=(Nj c c.length 0).2
theorem Pu (mp:Int→Option Afb) (rl:Nat→Afb→Option Afb) (lk:Nat→Afb→Int) (c:List Int) (lkP:Cd.Ins→Afb→Int) (bh:Cd.Ins→Afb→Option Afb) (P:Afb→Prop) (hPm:∀ q z,mp q=some z→P z) :
  ∀ (ps:List Nat),(∀ p∈ps,∀ x,P x→lkP (Cd.insAt c p) x=lk p x∧(lk p x=0→∃ y,rl p x=some y∧bh (Cd.insAt c p) x=some y∧P y))→∀ o:Option Afb,(∀ x,o=some x→P x) →
   Ail mp lkP bh (ps.map (Cd.insAt c)) o=Ai7 (fun p=>mp (p:Int)) rl (fun p=>Af5 (c.getD p 0)) lk ps o
 | [],_,_,_=>rfl
 | p::r,h,o,ho=>by
  have ih:=Pu mp rl lk c lkP bh P hPm r (fun q hq=>h q (by simp[hq]));rw[List.map_cons,Ail,Ai7];have e1:(Cd.insAt c p).place=(p:Int):=rfl;have e2:(Cd.insAt c p).op=c.getD p 0:=rfl;rw[e1,e2];cases hm:(mp (p:Int)).or o with
  | none=>exact ih none (fun x hx=>by cases hx)
  | some x =>
   have hPx:P x:=by
    cases hq:mp (p:Int) with
    | none=>rw[hq]at hm;exact ho x hm
    | some z=>rw[hq]at hm;obtain rfl:=Option.some.inj hm;exact hPm _ _ hq
   obtain⟨g1,g2⟩:=h p (by simp) x hPx;simp only;rw[g1];by_cases hz:lk p x=0
   ·rw[if_neg (show ¬ lk p x≠0 from fun g=>g hz),if_neg (show ¬ lk p x≠0 from fun g=>g hz)];obtain⟨y,hy1,hy2,hPy⟩:=g2 hz;have hst:Ah5 (fun p=>mp (p:Int)) rl (fun p=>Af5 (c.getD p 0)) p o=if Af5 (c.getD p 0)=true then some y else none:=by
     unfold Ah5;simp only;rw[hm];simp only[Option.bind_some];rw[hy1];rfl
    rw[hst,hy2];refine ih _ (fun x' hx'=>?_)
    split at hx'
    ·obtain rfl:=Option.some.inj hx';exact hPy
    ·cases hx'
   ·rw[if_pos (show lk p x≠0 from hz),if_pos (show lk p x≠0 from hz)]
theorem Sr {T:List Int} (hT:Tr.Ok T) (mp:Int→Option Afb) (rl:Nat→Afb→Option Afb) (lk:Nat→Afb→Int) (c:List Int) (lkP:Cd.Ins→Afb→Int) (bh:Cd.Ins→Afb→Option Afb) (P:Afb→Prop) (hPA:∀ x,P x→Afy T x) (hPm:∀ q z,mp q=some z→P z) (x0:Afb) (hP0:P x0)
  (h:∀ p∈Cd.places c,∀ x,P x→lkP (Cd.insAt c p) x=lk p x∧(lk p x=0→∃ y,rl p x=some y∧bh (Cd.insAt c p) x=some y∧P y)) :
  Aja T mp lkP bh (Cd.insts c) x0=Ajl T (mp 0) x0 (fun q=>Aiv (fun p=>mp (p:Int)) rl (fun p=>Af5 (c.getD p 0)) q (Cd.places c) (some x0)) lk (Cd.places c):=by
 unfold Aja Ajl Cd.insts;have hl:=Jg (fun p=>mp (p:Int)) rl (fun p=>Af5 (c.getD p 0)) lk (some x0) (Cd.places c) [] (by simpa using Oc c);simp only[List.nil_append,List.foldl_nil]at hl;rw[hl,Pu mp rl lk c lkP bh P hPm (Cd.places c) h (some x0) (fun x hx=>by obtain rfl:=Option.some.inj hx;exact hP0)];cases hm:mp 0 with
 | none=>rw[Jk hm,if_neg (show ¬ true=false by decide),if_neg (show ¬ ((none:Option Afb).isSome=true∧Afh T x0 (Afs none)=false) by simp)]
 | some z =>
  have e3:Afs (some z)=z:=rfl;rw[Eu hT hm (hPA _ hP0) (hPA _ (hPm _ _ hm)),e3];cases hf:Afh T x0 z with
  | false=>rw[if_pos rfl,if_pos (show (some z).isSome=true∧false=false from ⟨rfl,rfl⟩)]
  | true=>rw[if_neg (show ¬ true=false by decide),if_neg (show ¬ ((some z).isSome=true∧true=false) by simp)]
theorem M9 (f g:Rd.Mth→Int × Int):∀ (ms:List Rd.Mth) (k:Nat),(∀ m∈ms,f m=g m)→Agb f k ms=Agx g k ms
 | [],_,_=>rfl
 | m::r,k,h=>by rw[Agb,Agx,h m (by simp),M9 f g r (k+1) (fun x hx=>h x (by simp[hx]))]
theorem Ph {T:List Int}{ms:List Rd.Mth}:∀ (l:List Rd.Mth) (k:Nat),Aij T ms k l<0→∀ m∈l,∃ j,Aii T ms j m=true
 | [],_,_=>by simp
 | m::r,k,h=>by
  rw[Aij]at h;by_cases h1:Aii T ms k m=false
  ·rw[if_pos h1]at h;omega
  ·rw[if_neg h1]at h;intro x hx;rcases List.mem_cons.1 hx with rfl | hx
   ·exact⟨k,by simpa using h1⟩
   ·exact Ph r _ h x hx
theorem Nn {T:List Int}{nf:Int}{ow:List Int}:∀ (l:List Rd.Mth) (k:Nat),(Ai2 T nf ow k l).1=0→∀ m∈l,(Ais T nf ow m).1=0
 | [],_,_=>by simp
 | m::r,k,h=>by
  rw[Ai2]at h;by_cases h1:(Ais T nf ow m).1≠0
  ·rw[if_pos h1]at h;exact absurd h h1
  ·rw[if_neg h1]at h;intro x hx;rcases List.mem_cons.1 hx with rfl | hx
   ·simpa using h1
   ·exact Nn r _ h x hx
theorem Rq {T:List Int}:∀ (l:List Rd.Cls) (k:Nat),(Tr.inCl T k l).1=0→∀ c∈l,Tr.allPlainB T c.fields=true
 | [],_,_=>by simp
 | c::r,k,h=>by
  rw[Tr.inCl]at h;by_cases h1:7+(k:Int)≤c.above
  ·rw[if_pos h1]at h;simp at h
  ·rw[if_neg h1]at h;by_cases h2:Tr.allPlainB T c.fields=false
   ·rw[if_pos h2]at h;simp at h
   ·rw[if_neg h2]at h;intro x hx;rcases List.mem_cons.1 hx with rfl | hx
    ·simpa using h2
    ·exact Rq r _ h x hx
theorem Kn {α:Type}{f:α→Bool}:∀ (l:List α) (k:Nat),Cd.firstIx f k l<0→∀ x∈l,f x=false
 | [],_,_=>by simp
 | x::r,k,h=>by
  rw[Cd.firstIx]at h;by_cases h1:f x=true
  ·rw[if_pos h1]at h;omega
  ·rw[if_neg h1]at h;intro y hy;rcases List.mem_cons.1 hy with rfl | hy
   ·simpa using h1
   ·exact Kn r _ h y hy
theorem Kt {T c:List Int}:∀ (l:List Rd.Mp) (i:Nat) (last:Int),Cd.mapsBad T c i last l<0→∀ x∈l,Cd.frAll T c x.locals=true∧Cd.frAll T c x.stack=true∧Cd.begB c x.place=true
 | [],_,_,_=>by simp
 | m::r,i,last,h=>by
  rw[Cd.mapsBad]at h;by_cases h1:Cd.begB c m.place=false
  ·rw[if_pos h1]at h;omega
  ·rw[if_neg h1]at h;by_cases h2:m.place≤last
   ·rw[if_pos h2]at h;omega
   ·rw[if_neg h2]at h;by_cases h3:Cd.frAll T c m.locals=false
    ·rw[if_pos h3]at h;omega
    ·rw[if_neg h3]at h;by_cases h4:Cd.frAll T c m.stack=false
     ·rw[if_pos h4]at h;omega
     ·rw[if_neg h4]at h;intro y hy;rcases List.mem_cons.1 hy with rfl | hy
      ·exact⟨by simpa using h3,by simpa using h4,by simpa using h1⟩
      ·exact Kt r _ _ h y hy
structure Aj6 (m:Rd.Mth):Prop where
 lo:0≤m.locals∧m.locals≤8
 st:0≤m.stack∧m.stack≤8
 ml:∀ q∈m.maps,q.locals.length=m.locals.toNat∧(q.stack.length:Int)≤m.stack
 c255:∀ x∈m.code,x≤255
theorem Aeb (s:List UInt8) (L H:Int) (hH:0≤H) (t:Rd.St):(Rd.mp s L H t).1.locals.length=L.toNat∧((Rd.mp s L H t).1.stack.length:Int)≤H:=by
 simp only[Rd.mp,Rd.tys,Rd.rep_len];have:=Rd.cn_bd s 0 H (Rd.rep (Rd.ty s) L.toNat (Rd.nx s t).2).2 hH;exact⟨trivial,by omega⟩
theorem Ad0 (s:List UInt8) (t:Rd.St):Aj6 (Rd.mth s t).1:=by
 simp only[Rd.mth];generalize (Rd.nx s (Rd.nx s t).2).2=t1;generalize Rd.cn s 0 4 t1=p at *;generalize (Rd.tys s p.1.toNat p.2).2=t2;generalize (Rd.ty s t2).2=t3;have h2:=Rd.cn_bd s 0 8 t3 (by omega);generalize Rd.cn s 0 8 t3=l at *;have h3:=Rd.cn_bd s 0 8 l.2 (by omega);generalize Rd.cn s 0 8 l.2=h at *;refine⟨h2,h3,?_,by simp only[Rd.codes];exact Ek (fun x:Int=>x≤255) _ (fun t=>(Rd.nx_bd s t).2) _ _⟩;simp only[Rd.mps];exact Ek (fun q:Rd.Mp=>q.locals.length=l.1.toNat∧(q.stack.length:Int)≤h.1) _ (fun t=>Aeb s l.1 h.1 h3.1 t) _ _
theorem Ac2 (s:List UInt8):∀ m∈(Rd.read s).1.methods,Aj6 m:=by
 unfold Rd.read
 split
 ·simp
 ·split
  ·simp
  ·simp only[Rd.fil];exact Ek Aj6 _ (fun t=>Ad0 s t) _ _
structure Ai5 (T:List Int) (nf:Int) (ms:List Rd.Mth) (m:Rd.Mth):Prop where
 bd:Aji m
 rd:Aj6 m
 unread:Cd.unread m.code<0
 arg:∀ p∈Cd.places m.code,Cd.argAt T nf (ms.map Rd.Mth.cl) m.locals m.code p=true
 hnd:∀ h∈m.handlers,Cd.hndBad T m.code h=false
 map:∀ q∈m.maps,Cd.frAll T m.code q.locals=true∧Cd.frAll T m.code q.stack=true∧Cd.begB m.code q.place=true
 cl:m.cl=255∨Tr.hasB T m.cl=true
 res:Tr.plainB T m.result.1 m.result.2=true∨m.result=(0,0)
 ps:Tr.allPlainB T m.params=true
 own:((Ajq m.cl m.params).length:Int)≤m.locals
theorem Z8 {T:List Int}{nf:Int}{ms:List Rd.Mth}{m:Rd.Mth} (hb:Aji m) (hr:Aj6 m) (hh:∃ j,Aii T ms j m=true) (h:(Ais T nf (ms.map Rd.Mth.cl) m).1=0):Ai5 T nf ms m:=by
 unfold Ais at h;by_cases h1:0≤Cd.badCode T nf (ms.map Rd.Mth.cl) m.locals m.code
 ·rw[if_pos h1]at h;simp at h
 rw[if_neg h1]at h;by_cases h2:0≤Cd.firstIx (Cd.hndBad T m.code) 0 m.handlers
 ·rw[if_pos h2]at h;simp at h
 rw[if_neg h2]at h;by_cases h3:0≤Cd.mapsBad T m.code 0 (-1) m.maps
 ·rw[if_pos h3]at h;simp at h
 unfold Cd.badCode at h1;have hu:Cd.unread m.code<0:=by
  by_cases hu:0≤Cd.unread m.code
  ·rw[if_pos hu]at h1;exact absurd hu h1
  ·omega
 rw[if_neg (by omega)]at h1;obtain⟨j,hj⟩:=hh;unfold Aii Akb at hj;by_cases g1:Aj9 T m.cl m.name m.result.1 m.result.2=true
 ·rw[if_pos g1]at hj;simp at hj
 rw[if_neg g1]at hj;by_cases g2:Tr.allPlainB T m.params=false
 ·rw[if_pos g2]at hj;simp at hj
 rw[if_neg g2]at hj;by_cases g3:Aka m.cl m.locals m.params=true
 ·rw[if_pos g3]at hj;simp at hj
 unfold Aj9 at g1;unfold Aka at g3;simp only[Bool.or_eq_true,Bool.and_eq_true,decide_eq_true_eq,Bool.not_eq_true',decide_eq_false_iff_not,not_or,not_and]at g1 g3;have g4:Cd.firstIx (Cd.hndBad T m.code) 0 m.handlers<0:=by omega
 have g5:Cd.mapsBad T m.code 0 (-1) m.maps<0:=by omega
 have g6:Cd.first (Cd.badArg T nf (ms.map Rd.Mth.cl) m.locals m.code) (Cd.places m.code)<0:=by omega
 refine⟨hb,hr,hu,?_,Kn _ _ g4,Kt _ _ _ g5,?_,?_,by simpa using g2,?_⟩
 ·intro p hp;have:=Js g6 p hp;unfold Cd.badArg at this
  simpa using this
 ·by_cases h255:m.cl=255
  ·exact .inl h255
  ·have:=g1.1;rw[if_neg h255]at this;simp at this;exact .inr this.1
 ·by_cases hp:Tr.plainB T m.result.1 m.result.2=true
  ·exact .inl hp
  ·have:=g1.2 (by simpa using hp);exact .inr (by simpa[Prod.ext_iff] using this)
 ·unfold Ajq;by_cases h255:m.cl=255
  ·rw[if_pos h255];simp;omega
  ·rw[if_neg h255];have:=g3.2 h255
   simp;omega
structure Ahb (cs:List Rd.Cls) (ms:List Rd.Mth):Prop where
 ok:Tr.Ok (Tr.tree cs)
 l6:cs.length≤6
 m6:ms.length≤6
 fn:∀ c∈cs,c.fields.length≤1000
 fl:∀ c∈cs,Tr.allPlainB (Tr.tree cs) c.fields=true
 mt:∀ m∈ms,Ai5 (Tr.tree cs) (Cd.fieldSum cs:Int) ms m
theorem Cu (s:List UInt8) (h:(Rf.formed s).1=0):Ahb (Rd.read s).1.classes (Rd.read s).1.methods∧(Rf.fil s).1=(Rd.read s).1.classes∧(Rf.fil s).2.1.map Rf.Mth.m=(Rd.read s).1.methods:=by
 rw[← Cf]at h;obtain⟨hc6,hfn⟩:=H9 s;obtain⟨hm6,hmb⟩:=Hn s;have hrd:=Ac2 s;unfold Aga at h;by_cases h0:(Rd.read s).2≠0
 ·rw[if_pos h0]at h;exact absurd h h0
 rw[if_neg h0]at h;obtain⟨e1,e2⟩:=(Mb s).2 (by simpa using h0);refine⟨?_,e1.symm,e2.symm⟩;unfold Ahz at h;by_cases h1:(Tr.inCl (Tr.tree (Rd.read s).1.classes) 0 (Rd.read s).1.classes).1≠0
 ·rw[if_pos h1]at h;exact absurd h h1
 rw[if_neg h1]at h;have h1':(Tr.inCl (Tr.tree (Rd.read s).1.classes) 0 (Rd.read s).1.classes).1=0:=by simpa using h1
 have hT:=Uo _ (Rk s) h1';have hTl:=Br (Rd.read s).1.classes;rw[Vc hT (by omega) (by omega) _ _ (fun o ho=>(hmb o ho).cl) (fun m hm=>(hmb m hm).code0)]at h;unfold Aj8 at h;by_cases h2:0≤Aij (Tr.tree (Rd.read s).1.classes) (Rd.read s).1.methods 0 (Rd.read s).1.methods
 ·rw[if_pos h2]at h;simp at h
 rw[if_neg h2]at h;have h3:Aij (Tr.tree (Rd.read s).1.classes) (Rd.read s).1.methods 0 (Rd.read s).1.methods<0:=by omega
 exact⟨hT,hc6,hm6,hfn,Rq _ _ h1',fun m hm=>Z8 (hmb m hm) (hrd m hm) (Ph _ _ h3 m hm) (Nn _ _ h m hm)⟩
def Cd.atI (c:List Int) (i:Int):Int:=if i<0 then -1 else if (c.length:Int)≤i then -1 else c.getD i.toNat 0
theorem N7 (c:List Int) (p:Nat):Cd.nAt c p=Cd.atI c ((p:Int)+1):=by
 unfold Cd.nAt Cd.atI;rw[if_neg (show ¬ (p:Int)+1<0 by omega)];by_cases h:p+1<c.length
 ·rw[if_pos h,if_neg (by omega)]
  congr 1
 ·rw[if_neg h,if_pos (by omega)]
theorem D6 {c:List Int} (h:Cd.unread c<0):∀ p∈Cd.places c,c.getD p 0≤25∧p+Cd.wd (c.getD p 0)≤c.length:=by
 intro p hp;have:=Js h p hp;unfold Cd.noRead at this;simp at this
 simpa using this
theorem Ii {c:List Int}{p:Nat} (h:p+Cd.wd (c.getD p 0)≤c.length) (h2:Cd.wd (c.getD p 0)=2):(Cd.insAt c p).n=Cd.atI c ((p:Int)+1)∧Cd.atI c ((p:Int)+1)=c.getD (p+1) 0:=by
 have:Cd.atI c ((p:Int)+1)=c.getD (p+1) 0:=by
  rw[← N7];unfold Cd.nAt;rw[if_pos (by omega)]
 refine⟨?_,this⟩;rw[this];unfold Cd.insAt;simp only;rw[if_pos h2]
theorem Acy {T:List Int}{F:List Rf.Fld}{ms:List Rd.Mth}{want:Int→List (Int × Int)}{arg:Int→Int}{res:Int × Int}{p op:Int}{x:Afb} (h:Cd.wd op=1) (n n':Int) :
  Aiz T F ms want arg res p op n x=Aiz T F ms want arg res p op n' x:=by
 have h':¬ (op=0∨op=2∨op=3∨(11≤op∧op≤21)):=by
  intro g;unfold Cd.wd at h;rw[if_pos g]at h;omega
 have e1:Ahy F ms res op n=Ahy F ms res op n':=by
  unfold Ahy;simp only[show op≠17 by omega,show op≠18 by omega,show op≠20 by omega,show op≠21 by omega,if_false]
 have e2:Ahd F ms op n=Ahd F ms op n':=by
  unfold Ahd;simp only[show op≠17 by omega,show op≠19 by omega,show op≠20 by omega,show op≠21 by omega,if_false,false_or]
 unfold Aiz;rw[e1,e2];simp only[show op≠2 by omega,show op≠3 by omega,show op≠16 by omega,if_false]
theorem Ael {T:List Int}{mp:Int→Option Afb}{H:Int}{R:Option Afb}{op nxt len:Int} (h:Cd.wd op=1) (n n':Int):Aif T mp H R op n nxt len=Aif T mp H R op n' nxt len:=by
 have h':¬ (op=0∨op=2∨op=3∨(11≤op∧op≤21)):=by
  intro g;unfold Cd.wd at h;rw[if_pos g]at h;omega
 have e:Afx op=false:=by unfold Afx;simp;omega
 unfold Aif;simp only[e,Bool.false_eq_true,false_and,if_false]
theorem Fe {T:List Int}{n:Int}:Tr.hasB T n=true↔0≤n∧n<(T.length:Int):=by unfold Tr.hasB;simp
theorem Dd {T:List Int}{t:Int × Int} (h:Tr.plainB T t.1 t.2=true):Tr.Arg T t.1 t.2∧t.1≠4:=by
 unfold Tr.plainB at h;by_cases h1:t.1=1
 ·rw[if_pos h1]at h;exact⟨.inr (.inl ⟨h1,by simpa using h⟩),by omega⟩
 ·rw[if_neg h1]at h;by_cases h3:t.1=3
  ·rw[if_pos h3]at h;exact⟨.inr (.inr (.inr (.inl ⟨h3,Fe.1 h⟩))),by omega⟩
  ·rw[if_neg h3]at h;simp at h
theorem Mj {T:List Int}{isN:Int→Prop}{t:Int × Int} (h:Tr.plainB T t.1 t.2=true):Afi T isN t:=⟨(Dd h).1,fun g=>absurd g (Dd h).2⟩
theorem Ey {T:List Int}{l:List (Int × Int)} (h:Tr.allPlainB T l=true):∀ t∈l,Tr.plainB T t.1 t.2=true:=fun t ht=>by
 unfold Tr.allPlainB at h;exact List.all_eq_true.1 h t ht
theorem Do {T:List Int}{n:Int} (h:0≤n∧n<(T.length:Int)):Tr.Arg T 3 n:=.inr (.inr (.inr (.inl ⟨rfl,h⟩)))
theorem Pm {T:List Int}{r:Int × Int} (h:Tr.plainB T r.1 r.2=true∨r=(0,0)):∀ t∈Agq r,Tr.plainB T t.1 t.2=true:=by
 intro t ht;unfold Agq at ht
 split at ht
 ·simp at ht
 ·rename_i h0;obtain rfl:=List.mem_singleton.1 ht;rcases h with h | h
  ·exact h
  ·rw[h]at h0;exact absurd rfl h0
theorem Og {c base:Int}{own:List (Int × Int)}:∀ (k:Nat),k≤own.length→∀ f∈Rf.ownTo c base own k,f.owner=c∧f.t∈own
 | 0,_=>by simp[Rf.ownTo]
 | k+1,h=>by
  intro f hf;rw[Rf.ownTo]at hf;rcases List.mem_append.1 hf with hf | hf
  ·exact Og k (by omega) f hf
  ·obtain rfl:=List.mem_singleton.1 hf;exact⟨rfl,Cm (by omega)⟩
theorem Em:Rf.given.length=7:=rfl
theorem Abk (cs:List Rd.Cls) (j:Nat):(Rf.given++cs).getD (7+j) ⟨0,[]⟩=cs.getD j ⟨0,[]⟩:=by
 rw[List.getD_eq_getElem?_getD,List.getElem?_append_right (by rw[Em];omega),Em,← List.getD_eq_getElem?_getD]
 congr 1;omega
theorem Hm (cs:List Rd.Cls) (i:Nat) (h:i<7):((Rf.given++cs).getD i ⟨0,[]⟩).fields=[]:=by
 rw[List.getD_eq_getElem?_getD,List.getElem?_append_left (by rw[Em];omega)];have:i=0∨i=1∨i=2∨i=3∨i=4∨i=5∨i=6:=by omega
 rcases this with rfl|rfl|rfl|rfl|rfl|rfl|rfl<;>rfl
theorem Pi {T:List Int}{cs:List Rd.Cls} (h:∀ c∈cs,Tr.allPlainB T c.fields=true) (d:Nat):∀ t∈((Rf.given++cs).getD d ⟨0,[]⟩).fields,Tr.plainB T t.1 t.2=true:=by
 by_cases h7:d<7
 ·rw[Hm cs d h7];simp
 ·obtain⟨j,rfl⟩:∃ j,d=7+j:=⟨d-7,by omega⟩;rw[Abk];by_cases hj:j<cs.length
  ·exact Ey (h _ (Cm hj))
  ·rw[List.getD_eq_getElem?_getD,List.getElem?_eq_none (by omega)];simp
theorem Nb {T:List Int}{cs:List Rd.Cls} (h:∀ c∈cs,Tr.allPlainB T c.fields=true):∀ (j:Nat),∀ f∈Rf.fieldsTo T (Rf.given++cs) j,(7≤f.owner∧f.owner<7+(j:Int))∧Tr.plainB T f.t.1 f.t.2=true
 | 0=>by simp[Rf.fieldsTo]
 | j+1=>by
  intro f hf;rw[Rf.fieldsTo]at hf;rcases List.mem_append.1 hf with hf | hf
  ·obtain⟨a,b⟩:=Nb h j f hf;exact⟨by omega,b⟩
  ·unfold Rf.ownOf at hf;obtain⟨a,b⟩:=Og _ (Nat.le_refl _) f hf;exact⟨by omega,Pi h _ _ b⟩
theorem Jy {T:List Int}{cs:List Rd.Cls} (h:∀ c∈cs,Tr.allPlainB T c.fields=true) (c:Int):∀ (d:Nat),∀ t∈Rf.allTo T (Rf.given++cs) c d,Tr.plainB T t.1 t.2=true
 | 0=>by simp[Rf.allTo]
 | d+1=>by
  intro t ht;rw[Rf.allTo]at ht;rcases List.mem_append.1 ht with ht | ht
  ·exact Jy h c d t ht
  ·split at ht
   ·exact Pi h d t ht
   ·simp at ht
end Go.Proofs.YtpcgnjolfahacaaGreat
