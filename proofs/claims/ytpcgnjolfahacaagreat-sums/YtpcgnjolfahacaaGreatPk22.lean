/- a part of the proofs -/
import Derived.Test.YtpcgnjolfahacaaGreatPk21
set_option maxRecDepth 100000
set_option maxHeartbeats 40000000
set_option linter.unusedVariables false
set_option linter.unusedSimpArgs false
namespace Go.Proofs.YtpcgnjolfahacaaGreat
open Go.RowKit
theorem Ra (k:Mc.K) (S:Mc.S) (v:Mc.V) (cl name:Int) (w:World) (ok:k.Ok) (h:Mc.At k S v w) :
  Calls Tryz.prog 251 #[.pointer (some ⟨k.B,0,none⟩),.int .i64 cl,.int .i64 name] w fun e w'=>e=.returned (.int .i64 (k.E.nearest cl name))∧Below w.heap.size w w':=by
 have c1:=h.sees.c1;have c2:=h.sees.c2;have c3:=h.sees.c3;have hT:=h.rows.tree ok;have hlt:=h.blk.lt;have hTl:=ok.tl;have hml:=ok.ml;have HMS:=Ac (h.rows.mths ok);have eE:k.E.nearest cl name=Mc.nearTo k.T cl name (k.lms.map Prod.fst) 0 0 0:=rfl;rw[eE];generalize hr:Mc.nearTo k.T cl name (k.lms.map Prod.fst) 0 0 0=r;have HR:Hid (Mc.nearTo k.T cl name ((k.lms.map Prod.fst).drop 0) ((0:Nat):Int) 0 0=r):=hr;generalize k.ma=MA at *;clear h hr eE;go_enter Tryz.func251,Tryz.ntmps251;go_wp2
 go_loopw [7,8,17] (fun fv hv iv wr=>∃ (q:Nat) (f hi:Int),q≤k.lms.length∧fv=.int .i64 f∧hv=.int .i64 hi∧iv=.int .i64 (q:Int)∧Hid (Mc.nearTo k.T cl name ((k.lms.map Prod.fst).drop q) (q:Int) f hi=r)∧Below w.heap.size w wr)
  (fun _ _ i _=>k.lms.length-(intOf i).toNat)
 case atStart=>exact⟨0,0,0,by omega,rfl,rfl,rfl,HR,Below.refl _ _⟩
 case round =>
  clear HR;obtain⟨q,f,hi,hq,rfl,rfl,rfl,HR,hB⟩:=hrel;have hBs:=hB.size;by_cases hqn:q<k.lms.length
  ·have hms:=Aa HMS;have hms2:=hms.kp (Kp.of_below (e:=none) hB) (by decide) (by decide) (by decide) (by decide) (by decide);obtain⟨m,g,hg,hglt,Aw,hM⟩:=hms2.mth hqn;obtain⟨y0,y1,y2,y3,y4,y5,y6,y7,y8,y9⟩:=Fq Aw;have hcl:=hM.cl;have hnm:=hM.nm;have hd:(k.lms.map Prod.fst).drop q=k.lms[q].1::(k.lms.map Prod.fst).drop (q+1):=by rw[List.drop_eq_getElem_cons (by simpa using hqn)];simp
   have hr:=Aa HR;rw[hd,Mc.nearTo,← hcl,← hnm]at hr;obtain⟨m1,m2,m3,m4,m5,m6,m7,m8,m9,ma,mb,mc,md,me,mf,mg,mh,mi⟩:=m;simp only at y0 y1 y2 y3 y4 y5 y6 y7 y8 y9 hr;have d2:=(hB.cell (p:=⟨k.B,2,none⟩) hlt).trans c2;have d3:=(hB.cell (p:=⟨k.B,3,none⟩) hlt).trans c3;have hlr:k.B<wr.heap.size:=Nat.lt_of_lt_of_le hlt hBs;have hT2:=hT.below hB;have hWi:=fun w hT=>Df (ya:=k.ya) (yn:=k.lf.length) (yc:=k.yc) k.T k.tg k.tc cl m1 w hTl hT;have qb:(q:Int)<(k.lms.length:Int):=by omega
   have hba:Below wr.heap.size wr (wr.alloc (O12 m1 m2 m3 m4 m5 m6 m7 m8 m9 ma mb mc md me mf mg mh mi)):=QN _;have CH:=Ad wr (O12 m1 m2 m3 m4 m5 m6 m7 m8 m9 ma mb mc md me mf mg mh mi);have lH:=lt_of_block CH;have f0:=(Ab CH 0).trans (show _=some (.int .i64 m1) from rfl);have f1:=(Ab CH 1).trans (show _=some (.int .i64 m2) from rfl);have e2:=(hba.cell (p:=⟨k.B,2,none⟩) hlr).trans d2;have e3:=(hba.cell (p:=⟨k.B,3,none⟩) hlr).trans d3;have hTA:=hT2.below hba;have lB:k.B<(wr.alloc (O12 m1 m2 m3 m4 m5 m6 m7 m8 m9 ma mb mc md me mf mg mh mi)).heap.size:=Nat.lt_of_lt_of_le hlr hba.size;have HBA:Hid (Below w.heap.size w (wr.alloc (O12 m1 m2 m3 m4 m5 m6 m7 m8 m9 ma mb mc md me mf mg mh mi))):=hB.trans (hba.mono hBs);subst hg;generalize hwi:Tr.within k.T cl m1=WI at *;clear Aw hd HR hms hms2 hM hwi hcl hnm hba d2 d3 hT2;by_cases hA:m2=name
   ·have hA':(m2==name)=true:=by simp[hA]
    rw[hA',Bool.true_and]at hr;by_cases hH:hi≤m1
    ·rw[decide_eq_true hH,Bool.true_and]at hr;cases WI with
     | true =>
      rw[if_pos rfl]at hr;have HR2:Hid (Mc.nearTo k.T cl name ((k.lms.map Prod.fst).drop (q+1)) ((q+1:Nat):Int) (q:Int) m1=r):=hr;clear hr hA;go_wp2;generalize (wr.alloc (O12 m1 m2 m3 m4 m5 m6 m7 m8 m9 ma mb mc md me mf mg mh mi))=wA at *;refine wp_region_held_drew (S:=(fun w'=>w'.cell? ⟨wr.heap.size,0,none⟩=some (.int .i64 m1)∧w'.cell? ⟨wr.heap.size,1,none⟩=some (.int .i64 m2)∧w'.cell? ⟨k.B,2,none⟩=some (.slice (some ⟨k.tg,0,none⟩) k.T.length k.tc)∧w'.cell? ⟨k.B,3,none⟩=some (.slice k.ya k.lf.length k.yc))) (by kernel_rfl) ⟨f0,f1,e2,e3⟩ (fun hHeld=>?_);refine wpAnyH_take (i:=0) (oi:=⟨_,_,_,_,_,_⟩) (v:=.pointer (some ⟨wr.heap.size,1,none⟩)) rfl (by kernel_rfl) (by kernel_rfl) (by kernel_rfl) (fun _ _ _ h=>h) (Or.inl ⟨by rfl,?_⟩) hHeld ?_
      ·intro w' hSw
       try dsimp only at hSw
       go_simp
      try simp only[QX]
      refine wpAnyH_take (i:=1) (oi:=⟨_,_,_,_,_,_⟩) (v:=.int .i64 m2) rfl (by kernel_rfl) (by kernel_rfl) (by kernel_rfl) (fun _ _ _ h=>h) (Or.inl ⟨by rfl,?_⟩) hHeld ?_
      ·intro w' hSw
       try dsimp only at hSw
       go_simp
      try simp only[QX]
      refine wpAnyH_take (i:=2) (oi:=⟨_,_,_,_,_,_⟩) (v:=.int .i64 name) rfl (by kernel_rfl) (by kernel_rfl) (by kernel_rfl) (fun _ _ _ h=>h) (Or.inl ⟨by rfl,?_⟩) hHeld ?_
      ·intro w' hSw
       try dsimp only at hSw
       go_simp
      try simp only[QX]
      refine wpAnyH_take (i:=3) (oi:=⟨_,_,_,_,_,_⟩) (v:=.bool true) rfl (by kernel_rfl) (by kernel_rfl) (by kernel_rfl) (fun _ _ _ h=>h) (Or.inl ⟨by rfl,?_⟩) hHeld ?_
      ·intro w' hSw
       try dsimp only at hSw
       go_simp
      try simp only[QX]
      refine wpAnyH_take (i:=4) (oi:=⟨_,_,_,_,_,_⟩) (v:=.bool true) rfl (by kernel_rfl) (by kernel_rfl) (by kernel_rfl) (fun _ _ _ h=>h) (Or.inl ⟨by rfl,?_⟩) hHeld ?_
      ·intro w' hSw
       try dsimp only at hSw
       go_simp
      try simp only[QX]
      refine wpAnyH_take (i:=5) (oi:=⟨_,_,_,_,_,_⟩) (v:=.pointer (some ⟨wr.heap.size,0,none⟩)) rfl (by kernel_rfl) (by kernel_rfl) (by kernel_rfl) (fun _ _ _ h=>h) (Or.inl ⟨by rfl,?_⟩) hHeld ?_
      ·intro w' hSw
       try dsimp only at hSw
       go_simp
      try simp only[QX]
      refine wpAnyH_take (i:=6) (oi:=⟨_,_,_,_,_,_⟩) (v:=.int .i64 m1) rfl (by kernel_rfl) (by kernel_rfl) (by kernel_rfl) (fun _ _ _ h=>h) (Or.inl ⟨by rfl,?_⟩) hHeld ?_
      ·intro w' hSw
       try dsimp only at hSw
       go_simp
      try simp only[QX]
      refine wpAnyH_take (i:=7) (oi:=⟨_,_,_,_,_,_⟩) (v:=.int .i64 hi) rfl (by kernel_rfl) (by kernel_rfl) (by kernel_rfl) (fun _ _ _ h=>h) (Or.inl ⟨by rfl,?_⟩) hHeld ?_
      ·intro w' hSw
       try dsimp only at hSw
       go_simp
      try simp only[QX]
      refine wpAnyH_take (i:=8) (oi:=⟨_,_,_,_,_,_⟩) (v:=.bool true) rfl (by kernel_rfl) (by kernel_rfl) (by kernel_rfl) (fun _ _ _ h=>h) (Or.inl ⟨by rfl,?_⟩) hHeld ?_
      ·intro w' hSw
       try dsimp only at hSw
       go_simp
      try simp only[QX]
      refine wpAnyH_take (i:=9) (oi:=⟨_,_,_,_,_,_⟩) (v:=.bool true) rfl (by kernel_rfl) (by kernel_rfl) (by kernel_rfl) (fun _ _ _ h=>h) (Or.inl ⟨by rfl,?_⟩) hHeld ?_
      ·intro w' hSw
       try dsimp only at hSw
       go_simp
      try simp only[QX]
      refine wpAnyH_take (i:=10) (oi:=⟨_,_,_,_,_,_⟩) (v:=.bool true) rfl (by kernel_rfl) (by kernel_rfl) (by kernel_rfl) (fun _ _ _ h=>h) (Or.inl ⟨by rfl,?_⟩) hHeld ?_
      ·intro w' hSw
       try dsimp only at hSw
       go_simp
      try simp only[QX]
      refine wpAnyH_take (i:=11) (oi:=⟨_,_,_,_,_,_⟩) (v:=.pointer (some ⟨k.B,0,none⟩)) rfl (by kernel_rfl) (by kernel_rfl) (by kernel_rfl) (fun _ _ _ h=>h) (Or.inl ⟨by rfl,?_⟩) hHeld ?_
      ·intro w' hSw
       try dsimp only at hSw
       go_simp
      try simp only[QX]
      refine wpAnyH_take (i:=12) (oi:=⟨_,_,_,_,_,_⟩) (v:=.pointer (some ⟨k.B,0,none⟩)) rfl (by kernel_rfl) (by kernel_rfl) (by kernel_rfl) (fun _ _ _ h=>h) (Or.inl ⟨by rfl,?_⟩) hHeld ?_
      ·intro w' hSw
       try dsimp only at hSw
       go_simp
      try simp only[QX]
      refine wpAnyH_take (i:=13) (oi:=⟨_,_,_,_,_,_⟩) (v:=.pointer (some ⟨k.B,2,none⟩)) rfl (by kernel_rfl) (by kernel_rfl) (by kernel_rfl) (fun _ _ _ h=>h) (Or.inl ⟨by rfl,?_⟩) hHeld ?_
      ·intro w' hSw
       try dsimp only at hSw
       go_simp
      try simp only[QX]
      refine wpAnyH_take (i:=14) (oi:=⟨_,_,_,_,_,_⟩) (v:=.agg #[.slice (some ⟨k.tg,0,none⟩) k.T.length k.tc,.slice k.ya k.lf.length k.yc]) rfl (by kernel_rfl) (by kernel_rfl) (by kernel_rfl) (fun _ _ _ h=>h) (Or.inl ⟨by rfl,?_⟩) hHeld ?_
      ·intro w' hSw
       try dsimp only at hSw
       go_simp
      try simp only[QX]
      refine wpAnyH_take (i:=15) (oi:=⟨_,_,_,_,_,_⟩) (v:=.int .i64 cl) rfl (by kernel_rfl) (by kernel_rfl) (by kernel_rfl) (fun _ _ _ h=>h) (Or.inl ⟨by rfl,?_⟩) hHeld ?_
      ·intro w' hSw
       try dsimp only at hSw
       go_simp
      try simp only[QX]
      refine wpAnyH_take (i:=16) (oi:=⟨_,_,_,_,_,_⟩) (v:=.pointer (some ⟨wr.heap.size,0,none⟩)) rfl (by kernel_rfl) (by kernel_rfl) (by kernel_rfl) (fun _ _ _ h=>h) (Or.inl ⟨by rfl,?_⟩) hHeld ?_
      ·intro w' hSw
       try dsimp only at hSw
       go_simp
      try simp only[QX]
      refine wpAnyH_take (i:=17) (oi:=⟨_,_,_,_,_,_⟩) (v:=.int .i64 m1) rfl (by kernel_rfl) (by kernel_rfl) (by kernel_rfl) (fun _ _ _ h=>h) (Or.inl ⟨by rfl,?_⟩) hHeld ?_
      ·intro w' hSw
       try dsimp only at hSw
       go_simp
      try simp only[QX]
      refine wpAnyH_ready (rs:=[18]) (by kernel_rfl) (by simp) ?_;refine AllReadyH.cons (o:=⟨_,_,_,_,_,_⟩) rfl (fun K hK=>?_) AllReadyH.nil
      go_simp
      refine(hWi wA.drew (show TreeIn wA.drew k.tg k.T from hTA)).mono ?_;rintro e w7 ⟨rfl,hb7⟩
      try dsimp only
      clear hHeld;refine hK.out _ _ ⟨QC hb7 lH f0,QC hb7 lH f1,QC hb7 lB e2,QC hb7 lB e3⟩ (fun hHeld=>?_);clear hK K
      try simp only[QX]
      refine wpAnyH_take (i:=19) (oi:=⟨_,_,_,_,_,_⟩) (v:=.bool true) rfl (by kernel_rfl) (by kernel_rfl) (by kernel_rfl) (fun _ _ _ h=>h) (Or.inl ⟨by rfl,?_⟩) hHeld ?_
      ·intro w' hSw
       try dsimp only at hSw
       go_simp
      try simp only[QX]
      refine wpAnyH_done (by kernel_rfl) ?_ _;have hB7:=(Aa HBA).drew.trans (hb7.mono (Aa HBA).size);have f0':=QC hb7 lH f0;clear hHeld f0 f1 e2 e3 hWi;go_wp2
      go_roundw
      case rel=>exact⟨q+1,(q:Int),m1,by omega,rfl,rfl,by go_num,HR2,hB7⟩
      case measure=>simp[intOf];omega
     | false =>
      rw[if_neg (by simp)]at hr;have HR2:Hid (Mc.nearTo k.T cl name ((k.lms.map Prod.fst).drop (q+1)) ((q+1:Nat):Int) f hi=r):=hr;clear hr hA;go_wp2;generalize (wr.alloc (O12 m1 m2 m3 m4 m5 m6 m7 m8 m9 ma mb mc md me mf mg mh mi))=wA at *;refine wp_region_held_drew (S:=(fun w'=>w'.cell? ⟨wr.heap.size,0,none⟩=some (.int .i64 m1)∧w'.cell? ⟨wr.heap.size,1,none⟩=some (.int .i64 m2)∧w'.cell? ⟨k.B,2,none⟩=some (.slice (some ⟨k.tg,0,none⟩) k.T.length k.tc)∧w'.cell? ⟨k.B,3,none⟩=some (.slice k.ya k.lf.length k.yc))) (by kernel_rfl) ⟨f0,f1,e2,e3⟩ (fun hHeld=>?_);refine wpAnyH_take (i:=0) (oi:=⟨_,_,_,_,_,_⟩) (v:=.pointer (some ⟨wr.heap.size,1,none⟩)) rfl (by kernel_rfl) (by kernel_rfl) (by kernel_rfl) (fun _ _ _ h=>h) (Or.inl ⟨by rfl,?_⟩) hHeld ?_
      ·intro w' hSw
       try dsimp only at hSw
       go_simp
      try simp only[QX]
      refine wpAnyH_take (i:=1) (oi:=⟨_,_,_,_,_,_⟩) (v:=.int .i64 m2) rfl (by kernel_rfl) (by kernel_rfl) (by kernel_rfl) (fun _ _ _ h=>h) (Or.inl ⟨by rfl,?_⟩) hHeld ?_
      ·intro w' hSw
       try dsimp only at hSw
       go_simp
      try simp only[QX]
      refine wpAnyH_take (i:=2) (oi:=⟨_,_,_,_,_,_⟩) (v:=.int .i64 name) rfl (by kernel_rfl) (by kernel_rfl) (by kernel_rfl) (fun _ _ _ h=>h) (Or.inl ⟨by rfl,?_⟩) hHeld ?_
      ·intro w' hSw
       try dsimp only at hSw
       go_simp
      try simp only[QX]
      refine wpAnyH_take (i:=3) (oi:=⟨_,_,_,_,_,_⟩) (v:=.bool true) rfl (by kernel_rfl) (by kernel_rfl) (by kernel_rfl) (fun _ _ _ h=>h) (Or.inl ⟨by rfl,?_⟩) hHeld ?_
      ·intro w' hSw
       try dsimp only at hSw
       go_simp
      try simp only[QX]
      refine wpAnyH_take (i:=4) (oi:=⟨_,_,_,_,_,_⟩) (v:=.bool true) rfl (by kernel_rfl) (by kernel_rfl) (by kernel_rfl) (fun _ _ _ h=>h) (Or.inl ⟨by rfl,?_⟩) hHeld ?_
      ·intro w' hSw
       try dsimp only at hSw
       go_simp
      try simp only[QX]
      refine wpAnyH_take (i:=5) (oi:=⟨_,_,_,_,_,_⟩) (v:=.pointer (some ⟨wr.heap.size,0,none⟩)) rfl (by kernel_rfl) (by kernel_rfl) (by kernel_rfl) (fun _ _ _ h=>h) (Or.inl ⟨by rfl,?_⟩) hHeld ?_
      ·intro w' hSw
       try dsimp only at hSw
       go_simp
      try simp only[QX]
      refine wpAnyH_take (i:=6) (oi:=⟨_,_,_,_,_,_⟩) (v:=.int .i64 m1) rfl (by kernel_rfl) (by kernel_rfl) (by kernel_rfl) (fun _ _ _ h=>h) (Or.inl ⟨by rfl,?_⟩) hHeld ?_
      ·intro w' hSw
       try dsimp only at hSw
       go_simp
      try simp only[QX]
      refine wpAnyH_take (i:=7) (oi:=⟨_,_,_,_,_,_⟩) (v:=.int .i64 hi) rfl (by kernel_rfl) (by kernel_rfl) (by kernel_rfl) (fun _ _ _ h=>h) (Or.inl ⟨by rfl,?_⟩) hHeld ?_
      ·intro w' hSw
       try dsimp only at hSw
       go_simp
      try simp only[QX]
      refine wpAnyH_take (i:=8) (oi:=⟨_,_,_,_,_,_⟩) (v:=.bool true) rfl (by kernel_rfl) (by kernel_rfl) (by kernel_rfl) (fun _ _ _ h=>h) (Or.inl ⟨by rfl,?_⟩) hHeld ?_
      ·intro w' hSw
       try dsimp only at hSw
       go_simp
      try simp only[QX]
      refine wpAnyH_take (i:=9) (oi:=⟨_,_,_,_,_,_⟩) (v:=.bool true) rfl (by kernel_rfl) (by kernel_rfl) (by kernel_rfl) (fun _ _ _ h=>h) (Or.inl ⟨by rfl,?_⟩) hHeld ?_
      ·intro w' hSw
       try dsimp only at hSw
       go_simp
      try simp only[QX]
      refine wpAnyH_take (i:=10) (oi:=⟨_,_,_,_,_,_⟩) (v:=.bool true) rfl (by kernel_rfl) (by kernel_rfl) (by kernel_rfl) (fun _ _ _ h=>h) (Or.inl ⟨by rfl,?_⟩) hHeld ?_
      ·intro w' hSw
       try dsimp only at hSw
       go_simp
      try simp only[QX]
      refine wpAnyH_take (i:=11) (oi:=⟨_,_,_,_,_,_⟩) (v:=.pointer (some ⟨k.B,0,none⟩)) rfl (by kernel_rfl) (by kernel_rfl) (by kernel_rfl) (fun _ _ _ h=>h) (Or.inl ⟨by rfl,?_⟩) hHeld ?_
      ·intro w' hSw
       try dsimp only at hSw
       go_simp
      try simp only[QX]
      refine wpAnyH_take (i:=12) (oi:=⟨_,_,_,_,_,_⟩) (v:=.pointer (some ⟨k.B,0,none⟩)) rfl (by kernel_rfl) (by kernel_rfl) (by kernel_rfl) (fun _ _ _ h=>h) (Or.inl ⟨by rfl,?_⟩) hHeld ?_
      ·intro w' hSw
       try dsimp only at hSw
       go_simp
      try simp only[QX]
      refine wpAnyH_take (i:=13) (oi:=⟨_,_,_,_,_,_⟩) (v:=.pointer (some ⟨k.B,2,none⟩)) rfl (by kernel_rfl) (by kernel_rfl) (by kernel_rfl) (fun _ _ _ h=>h) (Or.inl ⟨by rfl,?_⟩) hHeld ?_
      ·intro w' hSw
       try dsimp only at hSw
       go_simp
      try simp only[QX]
      refine wpAnyH_take (i:=14) (oi:=⟨_,_,_,_,_,_⟩) (v:=.agg #[.slice (some ⟨k.tg,0,none⟩) k.T.length k.tc,.slice k.ya k.lf.length k.yc]) rfl (by kernel_rfl) (by kernel_rfl) (by kernel_rfl) (fun _ _ _ h=>h) (Or.inl ⟨by rfl,?_⟩) hHeld ?_
      ·intro w' hSw
       try dsimp only at hSw
       go_simp
      try simp only[QX]
      refine wpAnyH_take (i:=15) (oi:=⟨_,_,_,_,_,_⟩) (v:=.int .i64 cl) rfl (by kernel_rfl) (by kernel_rfl) (by kernel_rfl) (fun _ _ _ h=>h) (Or.inl ⟨by rfl,?_⟩) hHeld ?_
      ·intro w' hSw
       try dsimp only at hSw
       go_simp
      try simp only[QX]
      refine wpAnyH_take (i:=16) (oi:=⟨_,_,_,_,_,_⟩) (v:=.pointer (some ⟨wr.heap.size,0,none⟩)) rfl (by kernel_rfl) (by kernel_rfl) (by kernel_rfl) (fun _ _ _ h=>h) (Or.inl ⟨by rfl,?_⟩) hHeld ?_
      ·intro w' hSw
       try dsimp only at hSw
       go_simp
      try simp only[QX]
      refine wpAnyH_take (i:=17) (oi:=⟨_,_,_,_,_,_⟩) (v:=.int .i64 m1) rfl (by kernel_rfl) (by kernel_rfl) (by kernel_rfl) (fun _ _ _ h=>h) (Or.inl ⟨by rfl,?_⟩) hHeld ?_
      ·intro w' hSw
       try dsimp only at hSw
       go_simp
      try simp only[QX]
      refine wpAnyH_ready (rs:=[18]) (by kernel_rfl) (by simp) ?_;refine AllReadyH.cons (o:=⟨_,_,_,_,_,_⟩) rfl (fun K hK=>?_) AllReadyH.nil
      go_simp
      refine(hWi wA.drew (show TreeIn wA.drew k.tg k.T from hTA)).mono ?_;rintro e w7 ⟨rfl,hb7⟩
      try dsimp only
      clear hHeld;refine hK.out _ _ ⟨QC hb7 lH f0,QC hb7 lH f1,QC hb7 lB e2,QC hb7 lB e3⟩ (fun hHeld=>?_);clear hK K
      try simp only[QX]
      refine wpAnyH_take (i:=19) (oi:=⟨_,_,_,_,_,_⟩) (v:=.bool false) rfl (by kernel_rfl) (by kernel_rfl) (by kernel_rfl) (fun _ _ _ h=>h) (Or.inl ⟨by rfl,?_⟩) hHeld ?_
      ·intro w' hSw
       try dsimp only at hSw
       go_simp
      try simp only[QX]
      refine wpAnyH_done (by kernel_rfl) ?_ _;have hB7:=(Aa HBA).drew.trans (hb7.mono (Aa HBA).size);clear hHeld f0 f1 e2 e3 hWi;go_wp2
      go_roundw
      case rel=>exact⟨q+1,f,hi,by omega,rfl,rfl,by go_num,HR2,hB7⟩
      case measure=>simp[intOf];omega
    ·rw[decide_eq_false hH,Bool.false_and,if_neg (by simp)]at hr;have HR2:Hid (Mc.nearTo k.T cl name ((k.lms.map Prod.fst).drop (q+1)) ((q+1:Nat):Int) f hi=r):=hr;have hH':decide (hi≤m1)=false:=by simpa using hH
     clear hr hA hWi;go_wp2;generalize (wr.alloc (O12 m1 m2 m3 m4 m5 m6 m7 m8 m9 ma mb mc md me mf mg mh mi))=wA at *;refine wp_region_held_drew (S:=(fun w'=>w'.cell? ⟨wr.heap.size,0,none⟩=some (.int .i64 m1)∧w'.cell? ⟨wr.heap.size,1,none⟩=some (.int .i64 m2)∧w'.cell? ⟨k.B,2,none⟩=some (.slice (some ⟨k.tg,0,none⟩) k.T.length k.tc)∧w'.cell? ⟨k.B,3,none⟩=some (.slice k.ya k.lf.length k.yc))) (by kernel_rfl) ⟨f0,f1,e2,e3⟩ (fun hHeld=>?_);refine wpAnyH_take (i:=0) (oi:=⟨_,_,_,_,_,_⟩) (v:=.pointer (some ⟨wr.heap.size,1,none⟩)) rfl (by kernel_rfl) (by kernel_rfl) (by kernel_rfl) (fun _ _ _ h=>h) (Or.inl ⟨by rfl,?_⟩) hHeld ?_
     ·intro w' hSw
      try dsimp only at hSw
      go_simp
     try simp only[QX]
     refine wpAnyH_take (i:=1) (oi:=⟨_,_,_,_,_,_⟩) (v:=.int .i64 m2) rfl (by kernel_rfl) (by kernel_rfl) (by kernel_rfl) (fun _ _ _ h=>h) (Or.inl ⟨by rfl,?_⟩) hHeld ?_
     ·intro w' hSw
      try dsimp only at hSw
      go_simp
     try simp only[QX]
     refine wpAnyH_take (i:=2) (oi:=⟨_,_,_,_,_,_⟩) (v:=.int .i64 name) rfl (by kernel_rfl) (by kernel_rfl) (by kernel_rfl) (fun _ _ _ h=>h) (Or.inl ⟨by rfl,?_⟩) hHeld ?_
     ·intro w' hSw
      try dsimp only at hSw
      go_simp
     try simp only[QX]
     refine wpAnyH_take (i:=3) (oi:=⟨_,_,_,_,_,_⟩) (v:=.bool true) rfl (by kernel_rfl) (by kernel_rfl) (by kernel_rfl) (fun _ _ _ h=>h) (Or.inl ⟨by rfl,?_⟩) hHeld ?_
     ·intro w' hSw
      try dsimp only at hSw
      go_simp
     try simp only[QX]
     refine wpAnyH_take (i:=4) (oi:=⟨_,_,_,_,_,_⟩) (v:=.bool true) rfl (by kernel_rfl) (by kernel_rfl) (by kernel_rfl) (fun _ _ _ h=>h) (Or.inl ⟨by rfl,?_⟩) hHeld ?_
     ·intro w' hSw
      try dsimp only at hSw
      go_simp
     try simp only[QX]
     refine wpAnyH_take (i:=5) (oi:=⟨_,_,_,_,_,_⟩) (v:=.pointer (some ⟨wr.heap.size,0,none⟩)) rfl (by kernel_rfl) (by kernel_rfl) (by kernel_rfl) (fun _ _ _ h=>h) (Or.inl ⟨by rfl,?_⟩) hHeld ?_
     ·intro w' hSw
      try dsimp only at hSw
      go_simp
     try simp only[QX]
     refine wpAnyH_take (i:=6) (oi:=⟨_,_,_,_,_,_⟩) (v:=.int .i64 m1) rfl (by kernel_rfl) (by kernel_rfl) (by kernel_rfl) (fun _ _ _ h=>h) (Or.inl ⟨by rfl,?_⟩) hHeld ?_
     ·intro w' hSw
      try dsimp only at hSw
      go_simp
     try simp only[QX]
     refine wpAnyH_take (i:=7) (oi:=⟨_,_,_,_,_,_⟩) (v:=.int .i64 hi) rfl (by kernel_rfl) (by kernel_rfl) (by kernel_rfl) (fun _ _ _ h=>h) (Or.inl ⟨by rfl,?_⟩) hHeld ?_
     ·intro w' hSw
      try dsimp only at hSw
      go_simp
     try simp only[QX]
     refine wpAnyH_take (i:=8) (oi:=⟨_,_,_,_,_,_⟩) (v:=.bool false) rfl (by kernel_rfl) (by kernel_rfl) (by kernel_rfl) (fun _ _ _ h=>h) (Or.inl ⟨by rfl,?_⟩) hHeld ?_
     ·intro w' hSw
      try dsimp only at hSw
      go_simp
     try simp only[QX]
     refine wpAnyH_take (i:=9) (oi:=⟨_,_,_,_,_,_⟩) (v:=.bool false) rfl (by kernel_rfl) (by kernel_rfl) (by kernel_rfl) (fun _ _ _ h=>h) (Or.inl ⟨by rfl,?_⟩) hHeld ?_
     ·intro w' hSw
      try dsimp only at hSw
      go_simp
     try simp only[QX]
     refine wpAnyH_take (i:=10) (oi:=⟨_,_,_,_,_,_⟩) (v:=.bool false) rfl (by kernel_rfl) (by kernel_rfl) (by kernel_rfl) (fun _ _ _ h=>h) (Or.inl ⟨by rfl,?_⟩) hHeld ?_
     ·intro w' hSw
      try dsimp only at hSw
      go_simp
     try simp only[QX]
     refine wpAnyH_take (i:=11) (oi:=⟨_,_,_,_,_,_⟩) (v:=undef) rfl (by kernel_rfl) (by kernel_rfl) (by kernel_rfl) (fun _ _ _ h=>h) (Or.inr ⟨by rfl,rfl⟩) hHeld ?_
     try simp only[QX]
     refine wpAnyH_take (i:=12) (oi:=⟨_,_,_,_,_,_⟩) (v:=undef) rfl (by kernel_rfl) (by kernel_rfl) (by kernel_rfl) (fun _ _ _ h=>h) (Or.inr ⟨by rfl,rfl⟩) hHeld ?_
     try simp only[QX]
     refine wpAnyH_take (i:=13) (oi:=⟨_,_,_,_,_,_⟩) (v:=undef) rfl (by kernel_rfl) (by kernel_rfl) (by kernel_rfl) (fun _ _ _ h=>h) (Or.inr ⟨by rfl,rfl⟩) hHeld ?_
     try simp only[QX]
     refine wpAnyH_take (i:=14) (oi:=⟨_,_,_,_,_,_⟩) (v:=undef) rfl (by kernel_rfl) (by kernel_rfl) (by kernel_rfl) (fun _ _ _ h=>h) (Or.inr ⟨by rfl,rfl⟩) hHeld ?_
     try simp only[QX]
     refine wpAnyH_take (i:=15) (oi:=⟨_,_,_,_,_,_⟩) (v:=undef) rfl (by kernel_rfl) (by kernel_rfl) (by kernel_rfl) (fun _ _ _ h=>h) (Or.inr ⟨by rfl,rfl⟩) hHeld ?_
     try simp only[QX]
     refine wpAnyH_take (i:=16) (oi:=⟨_,_,_,_,_,_⟩) (v:=undef) rfl (by kernel_rfl) (by kernel_rfl) (by kernel_rfl) (fun _ _ _ h=>h) (Or.inr ⟨by rfl,rfl⟩) hHeld ?_
     try simp only[QX]
     refine wpAnyH_take (i:=17) (oi:=⟨_,_,_,_,_,_⟩) (v:=undef) rfl (by kernel_rfl) (by kernel_rfl) (by kernel_rfl) (fun _ _ _ h=>h) (Or.inr ⟨by rfl,rfl⟩) hHeld ?_
     try simp only[QX]
     refine wpAnyH_take (i:=18) (oi:=⟨_,_,_,_,_,_⟩) (v:=undef) rfl (by kernel_rfl) (by kernel_rfl) (by kernel_rfl) (fun _ _ _ h=>h) (Or.inr ⟨by rfl,rfl⟩) hHeld ?_
     try simp only[QX]
     refine wpAnyH_take (i:=19) (oi:=⟨_,_,_,_,_,_⟩) (v:=.bool false) rfl (by kernel_rfl) (by kernel_rfl) (by kernel_rfl) (fun _ _ _ h=>h) (Or.inl ⟨by rfl,?_⟩) hHeld ?_
     ·intro w' hSw
      try dsimp only at hSw
      go_simp
     try simp only[QX]
     refine wpAnyH_done (by kernel_rfl) ?_ _;have hB7:=(Aa HBA).drew;clear hHeld f0 f1 e2 e3;go_wp2
     go_roundw
     case rel=>exact⟨q+1,f,hi,by omega,rfl,rfl,by go_num,HR2,hB7⟩
     case measure=>simp[intOf];omega
   ·have hA':(m2==name)=false:=by simp[hA]
    rw[hA',Bool.false_and,if_neg (by simp)]at hr;have HR2:Hid (Mc.nearTo k.T cl name ((k.lms.map Prod.fst).drop (q+1)) ((q+1:Nat):Int) f hi=r):=hr;clear hr hA hWi;go_wp2;generalize (wr.alloc (O12 m1 m2 m3 m4 m5 m6 m7 m8 m9 ma mb mc md me mf mg mh mi))=wA at *;refine wp_region_held_drew (S:=(fun w'=>w'.cell? ⟨wr.heap.size,0,none⟩=some (.int .i64 m1)∧w'.cell? ⟨wr.heap.size,1,none⟩=some (.int .i64 m2)∧w'.cell? ⟨k.B,2,none⟩=some (.slice (some ⟨k.tg,0,none⟩) k.T.length k.tc)∧w'.cell? ⟨k.B,3,none⟩=some (.slice k.ya k.lf.length k.yc))) (by kernel_rfl) ⟨f0,f1,e2,e3⟩ (fun hHeld=>?_);refine wpAnyH_take (i:=0) (oi:=⟨_,_,_,_,_,_⟩) (v:=.pointer (some ⟨wr.heap.size,1,none⟩)) rfl (by kernel_rfl) (by kernel_rfl) (by kernel_rfl) (fun _ _ _ h=>h) (Or.inl ⟨by rfl,?_⟩) hHeld ?_
    ·intro w' hSw
     try dsimp only at hSw
     go_simp
    try simp only[QX]
    refine wpAnyH_take (i:=1) (oi:=⟨_,_,_,_,_,_⟩) (v:=.int .i64 m2) rfl (by kernel_rfl) (by kernel_rfl) (by kernel_rfl) (fun _ _ _ h=>h) (Or.inl ⟨by rfl,?_⟩) hHeld ?_
    ·intro w' hSw
     try dsimp only at hSw
     go_simp
    try simp only[QX]
    refine wpAnyH_take (i:=2) (oi:=⟨_,_,_,_,_,_⟩) (v:=.int .i64 name) rfl (by kernel_rfl) (by kernel_rfl) (by kernel_rfl) (fun _ _ _ h=>h) (Or.inl ⟨by rfl,?_⟩) hHeld ?_
    ·intro w' hSw
     try dsimp only at hSw
     go_simp
    try simp only[QX]
    refine wpAnyH_take (i:=3) (oi:=⟨_,_,_,_,_,_⟩) (v:=.bool false) rfl (by kernel_rfl) (by kernel_rfl) (by kernel_rfl) (fun _ _ _ h=>h) (Or.inl ⟨by rfl,?_⟩) hHeld ?_
    ·intro w' hSw
     try dsimp only at hSw
     go_simp
    try simp only[QX]
    refine wpAnyH_take (i:=4) (oi:=⟨_,_,_,_,_,_⟩) (v:=.bool false) rfl (by kernel_rfl) (by kernel_rfl) (by kernel_rfl) (fun _ _ _ h=>h) (Or.inl ⟨by rfl,?_⟩) hHeld ?_
    ·intro w' hSw
     try dsimp only at hSw
     go_simp
    try simp only[QX]
    refine wpAnyH_take (i:=5) (oi:=⟨_,_,_,_,_,_⟩) (v:=undef) rfl (by kernel_rfl) (by kernel_rfl) (by kernel_rfl) (fun _ _ _ h=>h) (Or.inr ⟨by rfl,rfl⟩) hHeld ?_
    try simp only[QX]
    refine wpAnyH_take (i:=6) (oi:=⟨_,_,_,_,_,_⟩) (v:=undef) rfl (by kernel_rfl) (by kernel_rfl) (by kernel_rfl) (fun _ _ _ h=>h) (Or.inr ⟨by rfl,rfl⟩) hHeld ?_
    try simp only[QX]
    refine wpAnyH_take (i:=7) (oi:=⟨_,_,_,_,_,_⟩) (v:=undef) rfl (by kernel_rfl) (by kernel_rfl) (by kernel_rfl) (fun _ _ _ h=>h) (Or.inr ⟨by rfl,rfl⟩) hHeld ?_
    try simp only[QX]
    refine wpAnyH_take (i:=8) (oi:=⟨_,_,_,_,_,_⟩) (v:=undef) rfl (by kernel_rfl) (by kernel_rfl) (by kernel_rfl) (fun _ _ _ h=>h) (Or.inr ⟨by rfl,rfl⟩) hHeld ?_
    try simp only[QX]
    refine wpAnyH_take (i:=9) (oi:=⟨_,_,_,_,_,_⟩) (v:=.bool false) rfl (by kernel_rfl) (by kernel_rfl) (by kernel_rfl) (fun _ _ _ h=>h) (Or.inl ⟨by rfl,?_⟩) hHeld ?_
    ·intro w' hSw
     try dsimp only at hSw
     go_simp
    try simp only[QX]
    refine wpAnyH_take (i:=10) (oi:=⟨_,_,_,_,_,_⟩) (v:=.bool false) rfl (by kernel_rfl) (by kernel_rfl) (by kernel_rfl) (fun _ _ _ h=>h) (Or.inl ⟨by rfl,?_⟩) hHeld ?_
    ·intro w' hSw
     try dsimp only at hSw
     go_simp
    try simp only[QX]
    refine wpAnyH_take (i:=11) (oi:=⟨_,_,_,_,_,_⟩) (v:=undef) rfl (by kernel_rfl) (by kernel_rfl) (by kernel_rfl) (fun _ _ _ h=>h) (Or.inr ⟨by rfl,rfl⟩) hHeld ?_
    try simp only[QX]
    refine wpAnyH_take (i:=12) (oi:=⟨_,_,_,_,_,_⟩) (v:=undef) rfl (by kernel_rfl) (by kernel_rfl) (by kernel_rfl) (fun _ _ _ h=>h) (Or.inr ⟨by rfl,rfl⟩) hHeld ?_
    try simp only[QX]
    refine wpAnyH_take (i:=13) (oi:=⟨_,_,_,_,_,_⟩) (v:=undef) rfl (by kernel_rfl) (by kernel_rfl) (by kernel_rfl) (fun _ _ _ h=>h) (Or.inr ⟨by rfl,rfl⟩) hHeld ?_
    try simp only[QX]
    refine wpAnyH_take (i:=14) (oi:=⟨_,_,_,_,_,_⟩) (v:=undef) rfl (by kernel_rfl) (by kernel_rfl) (by kernel_rfl) (fun _ _ _ h=>h) (Or.inr ⟨by rfl,rfl⟩) hHeld ?_
    try simp only[QX]
    refine wpAnyH_take (i:=15) (oi:=⟨_,_,_,_,_,_⟩) (v:=undef) rfl (by kernel_rfl) (by kernel_rfl) (by kernel_rfl) (fun _ _ _ h=>h) (Or.inr ⟨by rfl,rfl⟩) hHeld ?_
    try simp only[QX]
    refine wpAnyH_take (i:=16) (oi:=⟨_,_,_,_,_,_⟩) (v:=undef) rfl (by kernel_rfl) (by kernel_rfl) (by kernel_rfl) (fun _ _ _ h=>h) (Or.inr ⟨by rfl,rfl⟩) hHeld ?_
    try simp only[QX]
    refine wpAnyH_take (i:=17) (oi:=⟨_,_,_,_,_,_⟩) (v:=undef) rfl (by kernel_rfl) (by kernel_rfl) (by kernel_rfl) (fun _ _ _ h=>h) (Or.inr ⟨by rfl,rfl⟩) hHeld ?_
    try simp only[QX]
    refine wpAnyH_take (i:=18) (oi:=⟨_,_,_,_,_,_⟩) (v:=undef) rfl (by kernel_rfl) (by kernel_rfl) (by kernel_rfl) (fun _ _ _ h=>h) (Or.inr ⟨by rfl,rfl⟩) hHeld ?_
    try simp only[QX]
    refine wpAnyH_take (i:=19) (oi:=⟨_,_,_,_,_,_⟩) (v:=.bool false) rfl (by kernel_rfl) (by kernel_rfl) (by kernel_rfl) (fun _ _ _ h=>h) (Or.inl ⟨by rfl,?_⟩) hHeld ?_
    ·intro w' hSw
     try dsimp only at hSw
     go_simp
    try simp only[QX]
    refine wpAnyH_done (by kernel_rfl) ?_ _;have hB7:=(Aa HBA).drew;clear hHeld f0 f1 e2 e3;go_wp2
    go_roundw
    case rel=>exact⟨q+1,f,hi,by omega,rfl,rfl,by go_num,HR2,hB7⟩
    case measure=>simp[intOf];omega
  ·have hqq:q=k.lms.length:=by omega
   subst hqq;have hr:=Aa HR;rw[List.drop_of_length_le (by simp)]at hr;have hr':f=r:=hr;clear hr HR;subst hr';go_wp2;go_ret;exact⟨rfl,hB⟩
structure Mc.E.Small (E:Mc.E):Prop where
 cd:∀ n,∀ x∈(E.meth n).code,0≤x∧x≤255
 cl:∀ n,(E.meth n).code.length≤1000
 hn:∀ n,∀ h∈(E.meth n).handlers,0≤h.target∧h.target≤1000
 rm:E.room≤30
 dp:E.depth≤12
structure Mc.Bd (E:Mc.E) (S:Mc.S):Prop where
 ob:S.objs.length≤35
 wt:S.wait.length≤12
 rd:S.read≤E.ins.length
 nx:S.now.next≤2000
 nw:∀ c∈S.wait,c.next≤2000
theorem Mc.Bd.now {E:Mc.E}{S:Mc.S} (h:Mc.Bd E S) {c:Mc.Call} (hc:c.next≤2000):Mc.Bd E (S.withNow c):=⟨h.ob,h.wt,h.rd,hc,h.nw⟩
theorem Co (v:Int) (c:Mc.Call):(Mc.push v c).next=c.next:=by unfold Mc.push;split<;>rfl
theorem Ca (c:Mc.Call):(Mc.pop c).2.next=c.next:=by unfold Mc.pop;split<;>rfl
theorem Kz (n v:Int) (c:Mc.Call):(Mc.setLoc n v c).next=c.next:=by
 unfold Mc.setLoc
 split<;>first | rfl | (split<;>rfl)
theorem Ol:∀ (k:Nat) (c:Mc.Call),(Mc.popN k c).2.next=c.next
 | 0,_=>rfl
 | k+1,c=>(Ol k _).trans (Ca c)
theorem Ow:∀ (l:List Int) (i:Nat) (c:Mc.Call),(Mc.fill i l c).next=c.next
 | [],_,_=>rfl
 | _::r,i,_=>(Ow r (i+1) _).trans (Kz _ _ _)
theorem J5 (m:Int) (vs:List Int):(Mc.newCall m vs).next=0:=Ow vs 0 _
theorem Mc.Bd.push {E:Mc.E}{S:Mc.S} (h:Mc.Bd E S) (v:Int):Mc.Bd E (S.push v):=h.now (by rw[Co];exact h.nx)
theorem Mc.Bd.popped {E:Mc.E}{S:Mc.S} (h:Mc.Bd E S):Mc.Bd E S.popped:=h.now (by rw[Ca];exact h.nx)
theorem Mc.Bd.pops {E:Mc.E}{S:Mc.S} (h:Mc.Bd E S) (k:Nat):Mc.Bd E (Mc.popsS k S):=h.now (by rw[Ol];exact h.nx)
theorem Mc.Bd.fin {E:Mc.E}{S:Mc.S} (h:Mc.Bd E S) (a b:Int):Mc.Bd E (S.fin a b):=⟨h.ob,h.wt,h.rd,h.nx,h.nw⟩
theorem Mc.Bd.objs {E:Mc.E}{S:Mc.S} (h:Mc.Bd E S) {l:List (Int × List Int)} (hl:l.length≤35):Mc.Bd E (S.withObjs l):=⟨hl,h.wt,h.rd,h.nx,h.nw⟩
theorem Oh {T:List Int}{cl:Int}{p:Nat}:∀ {l:List Rd.Hnd},(∀ h∈l,0≤h.target∧h.target≤1000)→∀ {t:Nat},Mc.targetOf T cl p l=some t→t≤1000
 | [],_,_,h=>by simp[Mc.targetOf]at h
 | x::r,hl,t,h=>by
  unfold Mc.targetOf at h
  split at h
  ·have:=hl x (by simp);simp only[Option.some.injEq]at h;omega
  ·exact Oh (fun y hy=>hl y (by simp[hy])) h
theorem Ot {E:Mc.E}{S:Mc.S} (h:Mc.Bd E S) {c:Mc.Call} (hc:S.wait.getLast?=some c):c.next≤2000∧S.wait.dropLast.length≤12∧∀ x∈S.wait.dropLast,x.next≤2000:=by
 refine⟨h.nw c (List.mem_of_getLast? hc),?_,fun x hx=>h.nw x (List.dropLast_subset _ hx)⟩;have:=h.wt;rw[List.length_dropLast];omega
theorem J6 {E:Mc.E} (hE:E.Small) (o cl:Int):∀ (k:Nat) {S:Mc.S},Mc.Bd E S→Mc.Bd E (Mc.throwN E o cl k S)
 | 0,_,h=>h
 | k+1,S,h=>by
  unfold Mc.throwN;cases ht:E.target cl S.now with
  | some t=>exact h.now (by have:=Oh (hE.hn _) (show Mc.targetOf E.T cl S.now.pos (E.meth S.now.meth).handlers=some t from ht);show t≤2000;omega)
  | none =>
   cases hw:S.wait.getLast? with
   | none=>exact h.fin _ _
   | some c =>
    obtain⟨a,b,d⟩:=Ot h hw;exact J6 hE o cl k ⟨h.ob,b,h.rd,a,d⟩
theorem Du {E:Mc.E} (hE:E.Small) (cl:Int) {S:Mc.S} (h:Mc.Bd E S):Mc.Bd E (Mc.throwGiven E cl S):=J6 hE _ _ _ h
theorem Ko {E:Mc.E} (hE:E.Small) (m:Int) (vs:List Int) {S:Mc.S} (h:Mc.Bd E S):Mc.Bd E (Mc.openCall E m vs S):=by
 unfold Mc.openCall
 split
 ·exact Du hE _ h
 ·rename_i hd;have:=hE.dp;refine⟨h.ob,by show (S.wait++[S.now]).length≤12;simp;omega,h.rd,by show (Mc.newCall m vs).next≤2000;rw[J5];omega,fun c hc=>?_⟩
  rcases List.mem_append.1 hc with hc|hc
  ·exact h.nw c hc
  ·rw[List.mem_singleton.1 hc];exact h.nx
theorem Pr {E:Mc.E} (r:Int × Int) (v:Int) {S:Mc.S} (h:Mc.Bd E S):Mc.Bd E (Mc.backTo r v S):=by
 unfold Mc.backTo;cases hw:S.wait.getLast? with
 | none=>exact h.fin _ _
 | some c =>
  obtain⟨a,b,d⟩:=Ot h hw;refine⟨h.ob,b,h.rd,?_,d⟩;show (if r.1=0 then c else Mc.push v c).next≤2000
  split
  ·exact a
  ·rw[Co];exact a
theorem Zo (op n:Int) (c:Mc.Call):(Mc.move op n c).next=c.next:=by
 unfold Mc.move;by_cases c0:op=0
 ·rw[if_pos c0,Co]
 rw[if_neg c0];by_cases c1:op=1
 ·rw[if_pos c1,Co]
 rw[if_neg c1];by_cases c2:op=2
 ·rw[if_pos c2,Co]
 rw[if_neg c2];by_cases c3:op=3
 ·rw[if_pos c3,Kz,Ca]
 rw[if_neg c3];by_cases c4:op=4
 ·rw[if_pos c4,Ca]
 rw[if_neg c4];by_cases c5:op=5
 ·rw[if_pos c5,Co,Co,Ca]
 rw[if_neg c5];by_cases c6:op=6
 ·rw[if_pos c6,Co,Co,Ca,Ca]
 rw[if_neg c6]
theorem Ub (op n:Int) (hn:n≤255) (c:Mc.Call) (hc:c.next≤2000):(Mc.branch op n c).next≤2000:=by
 have g:∀ d:Mc.Call,(Mc.goTo n.toNat d).next≤2000:=fun d=>by show n.toNat≤2000;omega
 unfold Mc.branch;by_cases c0:op=12
 ·rw[if_pos c0]
  split
  ·exact g _
  ·rw[Ca];exact hc
 rw[if_neg c0];by_cases c1:op=13
 ·rw[if_pos c1]
  split
  ·exact g _
  ·rw[Ca,Ca];exact hc
 rw[if_neg c1];by_cases c2:op=14
 ·rw[if_pos c2]
  split
  ·exact g _
  ·rw[Ca];exact hc
 rw[if_neg c2];exact g _
theorem Ab2 (r:Int) (fs:List Int) (l:List (Int × List Int)):(Mc.setF r fs l).length=l.length:=by unfold Mc.setF;split<;>simp
theorem Abz (r s v:Int) (l:List (Int × List Int)):(Mc.putF r s v l).length=l.length:=by unfold Mc.putF;split<;>simp
theorem Ad8 {E:Mc.E} (hE:E.Small) (op n:Int) (hn:n≤255) {S:Mc.S} (h:Mc.Bd E S):Mc.Bd E (Mc.act E op n S):=by
 unfold Mc.act;by_cases c0:op≤6
 ·rw[if_pos c0];exact h.now (by rw[Zo];exact h.nx)
 rw[if_neg c0];by_cases c1:op≤10
 ·rw[if_pos c1];unfold Mc.reckon;cases Mc.reckoned op S.popped.top S.top with
  | none=>exact Du hE _ h.popped.popped
  | some z=>exact h.popped.popped.push z
 rw[if_neg c1];by_cases c2:op≤14
 ·rw[if_pos c2];exact h.now (Ub op n hn _ h.nx)
 rw[if_neg c2];by_cases c3:op=15
 ·rw[if_pos c3];unfold Mc.create
  split
  ·exact Du hE _ h
  ·rename_i hr;have:=hE.rm;exact(h.objs (by simp;omega)).push _
 rw[if_neg c3];by_cases c4:op=16
 ·rw[if_pos c4];exact(h.pops _).popped.objs (by rw[Ab2];exact h.ob)
 rw[if_neg c4];by_cases c5:op=17
 ·rw[if_pos c5];unfold Mc.getField
  split
  ·exact Du hE _ h.popped
  ·exact h.popped.push _
 rw[if_neg c5];by_cases c6:op=18
 ·rw[if_pos c6];unfold Mc.putField
  split
  ·exact Du hE _ h.popped.popped
  ·exact h.popped.popped.objs (by rw[Abz];exact h.ob)
 rw[if_neg c6];by_cases c7:op=19
 ·rw[if_pos c7];unfold Mc.cast
  split
  ·exact h.popped.push _
  ·split
   ·exact h.popped.push _
   ·exact Du hE _ h.popped
 rw[if_neg c7];by_cases c8:op=20
 ·rw[if_pos c8];exact Ko hE _ _ (h.pops _)
 rw[if_neg c8];by_cases c9:op=21
 ·rw[if_pos c9];unfold Mc.send Mc.sendTo
  split
  ·exact Du hE _ (h.pops _).popped
  ·exact Ko hE _ _ (h.pops _).popped
 rw[if_neg c9];by_cases c10:op=22
 ·rw[if_pos c10];unfold Mc.giveBack
  split
  ·exact Pr _ _ h
  ·exact Pr _ _ h.popped
 rw[if_neg c10];by_cases c11:op=23
 ·rw[if_pos c11];unfold Mc.throwTaken
  split
  ·exact Du hE _ h.popped
  ·exact J6 hE _ _ _ h.popped
 rw[if_neg c11];by_cases c12:op=24
 ·rw[if_pos c12];unfold Mc.inp
  split
  ·rename_i hr;exact Mc.Bd.push (S:=⟨S.read+1,S.objs,S.now,S.wait,S.ended,S.out,S.status,S.value,S.steps⟩) ⟨h.ob,h.wt,by show S.read+1≤_;omega,h.nx,h.nw⟩ _
  ·exact h.push _
 rw[if_neg c12];by_cases c13:op=25
 ·rw[if_pos c13];exact⟨h.ob,h.wt,h.rd,by show (Mc.pop S.now).2.next≤2000;rw[Ca];exact h.nx,h.nw⟩
 rw[if_neg c13];exact h
theorem Si {E:Mc.E} (hE:E.Small) (c:Mc.Call):0≤(Mc.one E c).op∧(Mc.one E c).op≤25∧0≤(Mc.one E c).n∧(Mc.one E c).n≤255∧0≤(Mc.one E c).place∧(Mc.one E c).place≤1000:=by
 unfold Mc.one Cd.one
 split
 ·rename_i hh;obtain⟨h1,h2,h3⟩:=hh;have key:∀ q,0≤(E.meth c.meth).code.getD q 0∧(E.meth c.meth).code.getD q 0≤255:=fun q=>by
   rw[List.getD_eq_getElem?_getD];cases hg:(E.meth c.meth).code[q]? with
   | none=>simp
   | some x=>exact hE.cd _ x (List.mem_of_getElem? hg)
  have hl:=hE.cl c.meth;refine⟨(key _).1,h2,?_,?_,by show (0:Int)≤(c.next:Int);omega,by show (c.next:Int)≤1000;omega⟩
  ·show 0≤(if Cd.wd ((E.meth c.meth).code.getD c.next 0)=2 then (E.meth c.meth).code.getD (c.next+1) 0 else 0)
   split
   ·exact(key _).1
   ·exact Int.le_refl _
  ·show (if Cd.wd ((E.meth c.meth).code.getD c.next 0)=2 then (E.meth c.meth).code.getD (c.next+1) 0 else 0)≤255
   split
   ·exact(key _).2
   ·omega
 ·exact⟨by simp[Cd.orZero],by simp[Cd.orZero],by simp[Cd.orZero],by simp[Cd.orZero],by simp[Cd.orZero],by simp[Cd.orZero]⟩
theorem Abd {E:Mc.E} (hE:E.Small) {S:Mc.S} (h:Mc.Bd E S):Mc.Bd E (Mc.begun E S):=by
 obtain⟨_,_,_,_,a,b⟩:=Si hE S.now;have hw:=Cd.wd_bd (Mc.one E S.now).op;exact⟨h.ob,h.wt,h.rd,by show (Mc.one E S.now).place.toNat+Cd.wd (Mc.one E S.now).op≤2000;omega,h.nw⟩
theorem Ac8 {E:Mc.E} (hE:E.Small) {S:Mc.S} (h:Mc.Bd E S):Mc.Bd E (Mc.step E S):=Ad8 hE _ _ (Si hE S.now).2.2.2.1 (Abd hE h)
theorem Aax (E:Mc.E) (e:Int):Mc.Bd E (Mc.start e):=⟨by simp[Mc.start],by simp[Mc.start],by simp[Mc.start],by show (Mc.newCall e []).next≤2000;rw[J5];omega,fun c hc=>by simp[Mc.start]at hc⟩
theorem Z4 (k:Mc.K) (S:Mc.S) (v:Mc.V) (n:Int) (w:World) (ok:k.Ok) (h:Mc.At k S v w) (hw:S.wait.length≤1000) :
  Calls Tryz.prog 193 #[.pointer (some ⟨k.B,0,none⟩),.int .i64 n] w fun e w'=>e=.returned (.tuple #[])∧∃ v',Mc.At k (Mc.send k.E n S) v' w':=by
 have hm:=Ec k S v n w ok h;have hpl:=ok.pm n;unfold Mc.send;generalize k.E.meth n=M at *;have hvl:(Mc.popsV M.params.length S).length=M.params.length:=Hg _ _;have HPA:Hid (∀ w la lc,Mc.At k S v w→Calls Tryz.prog 248 #[.pointer (some ⟨k.B,12,none⟩),.slice la M.params.length lc] w fun e w'=>e=.returned (.slice (some ⟨w.heap.size,0,none⟩) M.params.length M.params.length)∧Mc.Fresh k S v w' w.heap.size M.params.length (Mc.popsV M.params.length S)∧Mc.At k (Mc.popsS M.params.length S) v w'∧Gr k.B w w'):=fun w la lc h=>Jf k S v la M.params.length lc w ok h (by omega);have eW:(Mc.popsS M.params.length S).popped.wait=S.wait:=rfl;generalize Mc.popsV M.params.length S=vs at *;generalize Mc.popsS M.params.length S=S1 at *;have HP:Hid (∀ w,Mc.At k S1 v w→Calls Tryz.prog 240 #[.pointer (some ⟨k.B,12,none⟩)] w fun e w'=>e=.returned (.int .i64 S1.top)∧Mc.At k S1.popped v w'∧Gr k.B w w'):=fun w h =>
  (Bl S1.now k.B 12 156 _ _ w rfl h.wf h.blk).mono fun e w' ⟨he,hM,hg⟩=>⟨he,h.now ok hg (Ax h.wf) hM,hg⟩
 generalize S1.top=x at *;generalize S1.popped=S2 at *;have hT:=fun w h=>Bg k S2 v 3 w ok h (by omega) (by omega);have hC:=fun w h=>Gz k S2 v x w h;have hN:=fun w h=>Ra k S2 v (Mc.classOf x S2.objs) M.name w ok h;have hO:=fun m xa xc w h hx=>Pq k S2 v m xa xc (x::vs) w ok h hx (by simp;omega) (by rw[eW];exact hw);obtain⟨i0,hi,hz0,hz1,hz2⟩:=info_parts Tryz.infoInt;unfold Mc.sendTo;generalize Mc.classOf x S2.objs=cl at *;generalize k.E.nearest cl M.name=nr at *;have HT:=Ac hT;have HC:=Ac hC;have HN:=Ac hN;have HO:=Ac hO;have HA:=Ac h;have HM:=Ac hm;have hlt:=h.blk.lt;clear h hm hT hC hN hO eW;by_cases hx0:x=0
 ·rw[if_pos hx0];subst hx0;go_enter Tryz.func193,Tryz.ntmps193;go_wp2_with fail
  refine(Aa HM).mono ?_;rintro e w1 ⟨m,rfl,hM,hb1⟩;have h1:=(Aa HA).gr ok hb1;have hpl1:=hM.pl;have hnm1:=hM.nm;obtain⟨m1,m2,m3,m4,m5,m6,m7,m8,m9,ma,mb,mc,md,me,mf,mg,mh,mi⟩:=m;simp only at hpl1 hnm1;subst hpl1 hnm1;simp only[PM.val];have h2:=h1.gr ok (QN (O12 m1 M.name m3 M.params.length m5 m6 m7 m8 m9 ma mb mc md me mf mg mh mi));have CQ:=Ad w1 (O12 m1 M.name m3 M.params.length m5 m6 m7 m8 m9 ma mb mc md me mf mg mh mi);have hQB:w1.heap.size≠k.B:=by have:=h1.blk.lt;omega
  have q2:=(Ab CQ 2).trans (show _=some (.slice m3 M.params.length m5) from rfl);have H2:=Ac h2;clear HM hM hb1 h1 h2 HA;go_wp2;generalize w1.alloc (O12 m1 M.name m3 M.params.length m5 m6 m7 m8 m9 ma mb mc md me mf mg mh mi)=wA at *
  go_region_held3 (fun w'=>w'.cell? ⟨w1.heap.size,2,none⟩=some (.slice m3 M.params.length m5))
   (first | exact q2 | exact(Ab (hg7.own (show wA.drew.heap[_]?=_ from CQ) hQB) 2).trans rfl)
   (first | (go_at_call 248;refine(Aa HPA _ _ _ ((Aa H2).drew ok)).mono ?_;rintro e w7 ⟨rfl,hF7,hA7,hg7⟩))
  clear q2 CQ;go_wp2_with fail
  refine(Aa HP _ hA7).mono ?_;rintro e w8 ⟨rfl,h8,hg8⟩;go_wp2_with fail
  refine(Aa HT _ h8).mono ?_;rintro e w9 ⟨rfl,v',h9⟩;go_wp2;refine bodyPost_ret (v:=.tuple #[]) (by simp[results,Tryz.results193,go_sem]) rfl ?_;exact⟨rfl,v',h9⟩
 ·rw[if_neg hx0];have hx0':(x==0)=false:=by simp[hx0]
  clear hx0 HT;go_enter Tryz.func193,Tryz.ntmps193;go_wp2_with fail
  refine(Aa HM).mono ?_;rintro e w1 ⟨m,rfl,hM,hb1⟩;have h1:=(Aa HA).gr ok hb1;have hpl1:=hM.pl;have hnm1:=hM.nm;obtain⟨m1,m2,m3,m4,m5,m6,m7,m8,m9,ma,mb,mc,md,me,mf,mg,mh,mi⟩:=m;simp only at hpl1 hnm1;subst hpl1 hnm1;simp only[PM.val];have h2:=h1.gr ok (QN (O12 m1 M.name m3 M.params.length m5 m6 m7 m8 m9 ma mb mc md me mf mg mh mi));have CQ:=Ad w1 (O12 m1 M.name m3 M.params.length m5 m6 m7 m8 m9 ma mb mc md me mf mg mh mi);have hQB:w1.heap.size≠k.B:=by have:=h1.blk.lt;omega
  have q2:=(Ab CQ 2).trans (show _=some (.slice m3 M.params.length m5) from rfl);have H2:=Ac h2;clear HM hM hb1 h1 h2 HA;go_wp2;generalize w1.alloc (O12 m1 M.name m3 M.params.length m5 m6 m7 m8 m9 ma mb mc md me mf mg mh mi)=wA at *
  go_region_held3 (fun w'=>w'.cell? ⟨w1.heap.size,2,none⟩=some (.slice m3 M.params.length m5))
   (first | exact q2 | exact(Ab (hg7.own (show wA.drew.heap[_]?=_ from CQ) hQB) 2).trans rfl)
   (first | (go_at_call 248;refine(Aa HPA _ _ _ ((Aa H2).drew ok)).mono ?_;rintro e w7 ⟨rfl,hF7,hA7,hg7⟩))
  have CQ7:=hg7.own (show wA.drew.heap[_]?=_ from CQ) hQB;clear q2 CQ;go_wp2_with fail
  refine(Aa HP _ hA7).mono ?_;rintro e w8 ⟨rfl,h8,hg8⟩;have CQ8:=hg8.own CQ7 hQB;have q1:=(Ab CQ8 1).trans (show _=some (.int .i64 M.name) from rfl);have hF8:=hF7.gr hg8;go_wp2_with fail
  refine(Aa HC _ h8).mono ?_;rintro e w9 ⟨rfl,rfl⟩;go_wp2_with fail
  refine(Aa HN _ h8).mono ?_;rintro e w10 ⟨rfl,hb10⟩;have h10:=h8.gr ok hb10;have hI10:IntsAt w10 k.w0.heap.size (.slice (some ⟨wA.heap.size,0,none⟩) M.params.length M.params.length) vs:=Am hF8.ints (Kp.of_below (e:=none) hb10) (by decide);have hsz10:=h10.rows.szs;have hnew:=World.ownsRow_lit (base:=k.w0.heap.size) (e:=3) (size:=1) w10 #[.int .i64 x] 1 hsz10 (by unfold maxLen;omega) rfl;have hIA:IntsAt (w10.alloc (O4 x)) k.w0.heap.size (.slice (some ⟨wA.heap.size,0,none⟩) M.params.length M.params.length) vs:=Am hI10 (Kp.alloc (e:=none) w10 _) (by decide);have hnc:∀ j u,(vs.map (Value.int .i64))[j]?=some u→(w10.alloc (O4 x)).cell? ((⟨wA.heap.size,0,none⟩:Addr).add j)=some u:=fun j u hu=>by
   obtain⟨_,⟨hv,_⟩|⟨g',cap,cur,hv,_,hg,_,_,_,htk⟩⟩:=hIA
   ·simp at hv
   ·simp only[Value.slice.injEq,Option.some.injEq,Addr.mk.injEq,and_true]at hv;obtain⟨rfl,_,_⟩:=hv;rw[Addr.add_mid,Nat.zero_add,Ab hg,← hu,← htk,List.getElem?_take,if_pos (by have:=(List.getElem?_eq_some_iff.1 hu).1;simp at this ⊢;exact this)]
    simp
  clear CQ7 CQ8 hb10 h8 hI10 hIA;go_wp2_with (at_builtin;refine wpList_append_own_at _ rfl _ _ 26 rfl k.w0.heap.size 3 i0 _ 1 8 Tryz.underlying26 hi hz0 hz1 hz2 rfl (by decide) _ _ _ rfl hnew ⟨wA.heap.size,0,none⟩ M.params.length M.params.length (vs.map (Value.int .i64)) rfl ?c0 hnc ?c2 ?c3 ?c4 ?c5 ?_)
  case c0=>simp[hvl]
  case c2=>intro u hu;simp at hu;obtain⟨z,_,rfl⟩:=hu;rfl
  case c3=>unfold maxLen;omega
  case c4=>omega
  case c5=>simp;omega
  intro v' w11 hown11 hgrow _ hat;obtain⟨xa,xc,rfl⟩:=Ae hown11;have hb11:Below w10.heap.size w10 w11:=⟨hgrow.os,hgrow.tape,hgrow.output,Nat.le_trans (by simp) hgrow.size,fun j hj=>(hgrow.block j (by simp;omega) (by simp[Value.ownBlock];omega)).trans (Below.heap_alloc _ _ _ hj)⟩;have h11:=h10.gr ok hb11;have hI11:IntsAt w11 k.w0.heap.size (.slice xa (x::vs).length xc) (x::vs):=by
   have e:(x::vs).length=1+M.params.length:=by simp[hvl];omega
   rw[e];unfold IntsAt;rw[e]
   simpa using hown11
  have hO:=Aa HO nr xa xc w11 h11 hI11;have e:(x::vs).length=1+M.params.length:=by simp[hvl];omega
  rw[e]at hO;clear hown11 hgrow hat hb11 h11 hI11 e h10;go_wp2_with fail
  refine hO.mono ?_;rintro e w12 ⟨rfl,v',h12⟩;go_wp2
  go_end0
  exact⟨rfl,v',h12⟩
theorem Ea (k:Mc.K) (S:Mc.S) (v:Mc.V) (p op n:Int) (w:World) (ok:k.Ok) (h:Mc.At k S v w) (hop:15≤op∧op≤19) (hn:0≤n∧n≤255) (hol:S.objs.length≤1000) :
  Calls Tryz.prog 191 #[.pointer (some ⟨k.B,0,none⟩),.agg #[.int .i64 p,.int .i64 op,.int .i64 n]] w fun e w'=>e=.returned (.tuple #[])∧∃ v',Mc.At k (Mc.act k.E op n S) v' w':=by
 rcases(show op=15∨op=16∨op=17∨op=18∨op=19 by omega) with rfl|rfl|rfl|rfl|rfl
 ·have hc:=Tm k S v n _ ok (h.gr ok (QN (O9 p 15 n))) hol;have e:Mc.act k.E 15 n S=Mc.create k.E n S:=rfl;rw[e];clear h e hop hol;go_enter Tryz.func191,Tryz.ntmps191;go_wp2_with fail
  refine hc.mono ?_;rintro e w1 ⟨rfl,v',h1⟩;go_wp2
  go_end0
  exact⟨rfl,v',h1⟩
 ·have hc:=Nx k S v n _ ok (h.gr ok (QN (O9 p 16 n)));have e:Mc.act k.E 16 n S=Mc.setFields k.E n S:=rfl;rw[e];clear h e hop hol;go_enter Tryz.func191,Tryz.ntmps191;go_wp2_with fail
  refine hc.mono ?_;rintro e w1 ⟨rfl,v',h1⟩;go_wp2
  go_end0
  exact⟨rfl,v',h1⟩
 ·have hc:=Qm k S v n _ ok (h.gr ok (QN (O9 p 17 n))) ⟨hn.1,by omega⟩;have e:Mc.act k.E 17 n S=Mc.getField k.E n S:=rfl;rw[e];clear h e hop hol;go_enter Tryz.func191,Tryz.ntmps191;go_wp2_with fail
  refine hc.mono ?_;rintro e w1 ⟨rfl,v',h1⟩;go_wp2
  go_end0
  exact⟨rfl,v',h1⟩
 ·have hc:=Qb k S v n _ ok (h.gr ok (QN (O9 p 18 n))) ⟨hn.1,by omega⟩;have e:Mc.act k.E 18 n S=Mc.putField k.E n S:=rfl;rw[e];clear h e hop hol;go_enter Tryz.func191,Tryz.ntmps191;go_wp2_with fail
  refine hc.mono ?_;rintro e w1 ⟨rfl,v',h1⟩;go_wp2
  go_end0
  exact⟨rfl,v',h1⟩
 ·have hc:=Xs k S v n _ ok (h.gr ok (QN (O9 p 19 n)));have e:Mc.act k.E 19 n S=Mc.cast k.E n S:=rfl;rw[e];clear h e hop hol;go_enter Tryz.func191,Tryz.ntmps191;go_wp2_with fail
  refine hc.mono ?_;rintro e w1 ⟨rfl,v',h1⟩;go_wp2
  go_end0
  exact⟨rfl,v',h1⟩
theorem Zi (k:Mc.K) (S:Mc.S) (v:Mc.V) (p op n:Int) (w:World) (ok:k.Ok) (h:Mc.At k S v w) (hop:0≤op∧op≤6) (hn:0≤n∧n≤255) :
  Calls Tryz.prog 188 #[.pointer (some ⟨k.B,12,none⟩),.agg #[.int .i64 p,.int .i64 op,.int .i64 n]] w fun e w'=>e=.returned (.tuple #[])∧Mc.At k (S.withNow (Mc.move op n S.now)) v w'∧Gr k.B w w' :=
 (Yv S.now p op n k.B 12 156 _ _ w rfl h.wf h.blk hop hn).mono fun _ _ ⟨he,hM,hg⟩=>⟨he,h.now ok hg (Adj h.wf op n) hM,hg⟩
theorem Tx (k:Mc.K) (S:Mc.S) (v:Mc.V) (p op n:Int) (w:World) (ok:k.Ok) (h:Mc.At k S v w) (hop:11≤op∧op≤14) (hn:0≤n) :
  Calls Tryz.prog 190 #[.pointer (some ⟨k.B,12,none⟩),.agg #[.int .i64 p,.int .i64 op,.int .i64 n]] w fun e w'=>e=.returned (.tuple #[])∧Mc.At k (S.withNow (Mc.branch op n S.now)) v w'∧Gr k.B w w' :=
 (Tc S.now p op n k.B 12 156 _ _ w rfl h.wf h.blk hop hn).mono fun _ _ ⟨he,hM,hg⟩=>⟨he,h.now ok hg (Za h.wf op n) hM,hg⟩
theorem Aal {E:Mc.E}{op n:Int}{S:Mc.S} (h:op≤6):Mc.act E op n S=S.withNow (Mc.move op n S.now):=by unfold Mc.act;rw[if_pos h]
theorem V4 {E:Mc.E}{op n:Int}{S:Mc.S} (h:7≤op∧op≤10):Mc.act E op n S=Mc.reckon E op S:=by unfold Mc.act;rw[if_neg (by omega),if_pos h.2]
theorem Ws {E:Mc.E}{op n:Int}{S:Mc.S} (h:11≤op∧op≤14):Mc.act E op n S=S.withNow (Mc.branch op n S.now):=by unfold Mc.act;rw[if_neg (by omega),if_neg (by omega),if_pos h.2]
structure Mc.Few (S:Mc.S):Prop where
 ob:S.objs.length≤1000
 wt:S.wait.length≤1000
 rd:S.read≤100000
 ou:S.out.length≤100000
theorem Aan (k:Mc.K) (S:Mc.S) (v:Mc.V) (p op n:Int) (w:World) (ok:k.Ok) (h:Mc.At k S v w) (hop:0≤op∧op≤14) (hn:0≤n∧n≤255) :
  Calls Tryz.prog 133 #[.pointer (some ⟨k.B,0,none⟩),.agg #[.int .i64 p,.int .i64 op,.int .i64 n]] w fun e w'=>e=.returned (.tuple #[])∧∃ v',Mc.At k (Mc.act k.E op n S) v' w':=by
 have hA:=h.gr ok (QN (O9 p op n));have CI:=Ad w (O9 p op n);have i0:=(Ab CI 0).trans (show _=some (.int .i64 p) from rfl);have i1:=(Ab CI 1).trans (show _=some (.int .i64 op) from rfl);have i2:=(Ab CI 2).trans (show _=some (.int .i64 n) from rfl);have hIB:w.heap.size≠k.B:=by have:=h.blk.lt;omega
 have HA:=Ac hA;clear h hA;by_cases h6:op≤6
 ·rw[Aal h6];have hM:=fun w h=>Zi k S v p op n w ok h ⟨hop.1,h6⟩ hn;have HM:=Ac hM;clear hM;have hop':op=0∨op=1∨op=2∨op=3∨op=4∨op=5∨op=6:=by omega
  clear h6 hop;rcases hop' with rfl | rfl | rfl | rfl | rfl | rfl | rfl
  ·go_enter Tryz.func133,Tryz.ntmps133;go_wp2;generalize w.alloc (O9 p 0 n)=wA at *
   go_region_held3 (fun w'=>w'.cell? ⟨w.heap.size,0,none⟩=some (.int .i64 p)∧w'.cell? ⟨w.heap.size,1,none⟩=some (.int .i64 0)∧w'.cell? ⟨w.heap.size,2,none⟩=some (.int .i64 n))
    (first | exact⟨i0,i1,i2⟩ | exact⟨(Ab (hg7.own (show wA.drew.heap[_]?=_ from CI) hIB) 0).trans rfl,(Ab (hg7.own (show wA.drew.heap[_]?=_ from CI) hIB) 1).trans rfl,(Ab (hg7.own (show wA.drew.heap[_]?=_ from CI) hIB) 2).trans rfl⟩)
    (first | (go_at_call 188;refine(Aa HM _ ((Aa HA).drew ok)).mono ?_;rintro e w7 ⟨rfl,hA7,hg7⟩))
   go_wp2
   go_end0
   exact⟨rfl,v,hA7⟩
  ·go_enter Tryz.func133,Tryz.ntmps133;go_wp2;generalize w.alloc (O9 p 1 n)=wA at *
   go_region_held3 (fun w'=>w'.cell? ⟨w.heap.size,0,none⟩=some (.int .i64 p)∧w'.cell? ⟨w.heap.size,1,none⟩=some (.int .i64 1)∧w'.cell? ⟨w.heap.size,2,none⟩=some (.int .i64 n))
    (first | exact⟨i0,i1,i2⟩ | exact⟨(Ab (hg7.own (show wA.drew.heap[_]?=_ from CI) hIB) 0).trans rfl,(Ab (hg7.own (show wA.drew.heap[_]?=_ from CI) hIB) 1).trans rfl,(Ab (hg7.own (show wA.drew.heap[_]?=_ from CI) hIB) 2).trans rfl⟩)
    (first | (go_at_call 188;refine(Aa HM _ ((Aa HA).drew ok)).mono ?_;rintro e w7 ⟨rfl,hA7,hg7⟩))
   go_wp2
   go_end0
   exact⟨rfl,v,hA7⟩
  ·go_enter Tryz.func133,Tryz.ntmps133;go_wp2;generalize w.alloc (O9 p 2 n)=wA at *
   go_region_held3 (fun w'=>w'.cell? ⟨w.heap.size,0,none⟩=some (.int .i64 p)∧w'.cell? ⟨w.heap.size,1,none⟩=some (.int .i64 2)∧w'.cell? ⟨w.heap.size,2,none⟩=some (.int .i64 n))
    (first | exact⟨i0,i1,i2⟩ | exact⟨(Ab (hg7.own (show wA.drew.heap[_]?=_ from CI) hIB) 0).trans rfl,(Ab (hg7.own (show wA.drew.heap[_]?=_ from CI) hIB) 1).trans rfl,(Ab (hg7.own (show wA.drew.heap[_]?=_ from CI) hIB) 2).trans rfl⟩)
    (first | (go_at_call 188;refine(Aa HM _ ((Aa HA).drew ok)).mono ?_;rintro e w7 ⟨rfl,hA7,hg7⟩))
   go_wp2
   go_end0
   exact⟨rfl,v,hA7⟩
  ·go_enter Tryz.func133,Tryz.ntmps133;go_wp2;generalize w.alloc (O9 p 3 n)=wA at *
   go_region_held3 (fun w'=>w'.cell? ⟨w.heap.size,0,none⟩=some (.int .i64 p)∧w'.cell? ⟨w.heap.size,1,none⟩=some (.int .i64 3)∧w'.cell? ⟨w.heap.size,2,none⟩=some (.int .i64 n))
    (first | exact⟨i0,i1,i2⟩ | exact⟨(Ab (hg7.own (show wA.drew.heap[_]?=_ from CI) hIB) 0).trans rfl,(Ab (hg7.own (show wA.drew.heap[_]?=_ from CI) hIB) 1).trans rfl,(Ab (hg7.own (show wA.drew.heap[_]?=_ from CI) hIB) 2).trans rfl⟩)
    (first | (go_at_call 188;refine(Aa HM _ ((Aa HA).drew ok)).mono ?_;rintro e w7 ⟨rfl,hA7,hg7⟩))
   go_wp2
   go_end0
   exact⟨rfl,v,hA7⟩
  ·go_enter Tryz.func133,Tryz.ntmps133;go_wp2;generalize w.alloc (O9 p 4 n)=wA at *
   go_region_held3 (fun w'=>w'.cell? ⟨w.heap.size,0,none⟩=some (.int .i64 p)∧w'.cell? ⟨w.heap.size,1,none⟩=some (.int .i64 4)∧w'.cell? ⟨w.heap.size,2,none⟩=some (.int .i64 n))
    (first | exact⟨i0,i1,i2⟩ | exact⟨(Ab (hg7.own (show wA.drew.heap[_]?=_ from CI) hIB) 0).trans rfl,(Ab (hg7.own (show wA.drew.heap[_]?=_ from CI) hIB) 1).trans rfl,(Ab (hg7.own (show wA.drew.heap[_]?=_ from CI) hIB) 2).trans rfl⟩)
    (first | (go_at_call 188;refine(Aa HM _ ((Aa HA).drew ok)).mono ?_;rintro e w7 ⟨rfl,hA7,hg7⟩))
   go_wp2
   go_end0
   exact⟨rfl,v,hA7⟩
  ·go_enter Tryz.func133,Tryz.ntmps133;go_wp2;generalize w.alloc (O9 p 5 n)=wA at *
   go_region_held3 (fun w'=>w'.cell? ⟨w.heap.size,0,none⟩=some (.int .i64 p)∧w'.cell? ⟨w.heap.size,1,none⟩=some (.int .i64 5)∧w'.cell? ⟨w.heap.size,2,none⟩=some (.int .i64 n))
    (first | exact⟨i0,i1,i2⟩ | exact⟨(Ab (hg7.own (show wA.drew.heap[_]?=_ from CI) hIB) 0).trans rfl,(Ab (hg7.own (show wA.drew.heap[_]?=_ from CI) hIB) 1).trans rfl,(Ab (hg7.own (show wA.drew.heap[_]?=_ from CI) hIB) 2).trans rfl⟩)
    (first | (go_at_call 188;refine(Aa HM _ ((Aa HA).drew ok)).mono ?_;rintro e w7 ⟨rfl,hA7,hg7⟩))
   go_wp2
   go_end0
   exact⟨rfl,v,hA7⟩
  ·go_enter Tryz.func133,Tryz.ntmps133;go_wp2;generalize w.alloc (O9 p 6 n)=wA at *
   go_region_held3 (fun w'=>w'.cell? ⟨w.heap.size,0,none⟩=some (.int .i64 p)∧w'.cell? ⟨w.heap.size,1,none⟩=some (.int .i64 6)∧w'.cell? ⟨w.heap.size,2,none⟩=some (.int .i64 n))
    (first | exact⟨i0,i1,i2⟩ | exact⟨(Ab (hg7.own (show wA.drew.heap[_]?=_ from CI) hIB) 0).trans rfl,(Ab (hg7.own (show wA.drew.heap[_]?=_ from CI) hIB) 1).trans rfl,(Ab (hg7.own (show wA.drew.heap[_]?=_ from CI) hIB) 2).trans rfl⟩)
    (first | (go_at_call 188;refine(Aa HM _ ((Aa HA).drew ok)).mono ?_;rintro e w7 ⟨rfl,hA7,hg7⟩))
   go_wp2
   go_end0
   exact⟨rfl,v,hA7⟩
 by_cases h10:op≤10
 ·rw[V4 ⟨by omega,h10⟩];have hM:=fun w h=>Tg k S v op w ok h;have HM:=Ac hM;clear hM;have hop':op=7∨op=8∨op=9∨op=10:=by omega
  clear h6 hop h10;rcases hop' with rfl | rfl | rfl | rfl
  all_goals
   go_enter Tryz.func133,Tryz.ntmps133;go_wp2_with fail
   refine(Aa HM _ (Aa HA)).mono ?_;rintro e w7 ⟨rfl,v',hA7⟩;go_wp2
   go_end0
   exact⟨rfl,v',hA7⟩
 ·rw[Ws ⟨by omega,hop.2⟩];have hM:=fun w h=>Tx k S v p op n w ok h ⟨by omega,hop.2⟩ hn.1;have HM:=Ac hM;clear hM;have hop':op=11∨op=12∨op=13∨op=14:=by omega
  clear h6 hop h10;rcases hop' with rfl | rfl | rfl | rfl
  ·go_enter Tryz.func133,Tryz.ntmps133;go_wp2;generalize w.alloc (O9 p 11 n)=wA at *
   go_region_held3 (fun w'=>w'.cell? ⟨w.heap.size,0,none⟩=some (.int .i64 p)∧w'.cell? ⟨w.heap.size,1,none⟩=some (.int .i64 11)∧w'.cell? ⟨w.heap.size,2,none⟩=some (.int .i64 n))
    (first | exact⟨i0,i1,i2⟩ | exact⟨(Ab (hg7.own (show wA.drew.heap[_]?=_ from CI) hIB) 0).trans rfl,(Ab (hg7.own (show wA.drew.heap[_]?=_ from CI) hIB) 1).trans rfl,(Ab (hg7.own (show wA.drew.heap[_]?=_ from CI) hIB) 2).trans rfl⟩)
    (first | (go_at_call 190;refine(Aa HM _ ((Aa HA).drew ok)).mono ?_;rintro e w7 ⟨rfl,hA7,hg7⟩))
   go_wp2
   go_end0
   exact⟨rfl,v,hA7⟩
  ·go_enter Tryz.func133,Tryz.ntmps133;go_wp2;generalize w.alloc (O9 p 12 n)=wA at *
   go_region_held3 (fun w'=>w'.cell? ⟨w.heap.size,0,none⟩=some (.int .i64 p)∧w'.cell? ⟨w.heap.size,1,none⟩=some (.int .i64 12)∧w'.cell? ⟨w.heap.size,2,none⟩=some (.int .i64 n))
    (first | exact⟨i0,i1,i2⟩ | exact⟨(Ab (hg7.own (show wA.drew.heap[_]?=_ from CI) hIB) 0).trans rfl,(Ab (hg7.own (show wA.drew.heap[_]?=_ from CI) hIB) 1).trans rfl,(Ab (hg7.own (show wA.drew.heap[_]?=_ from CI) hIB) 2).trans rfl⟩)
    (first | (go_at_call 190;refine(Aa HM _ ((Aa HA).drew ok)).mono ?_;rintro e w7 ⟨rfl,hA7,hg7⟩))
   go_wp2
   go_end0
   exact⟨rfl,v,hA7⟩
  ·go_enter Tryz.func133,Tryz.ntmps133;go_wp2;generalize w.alloc (O9 p 13 n)=wA at *
   go_region_held3 (fun w'=>w'.cell? ⟨w.heap.size,0,none⟩=some (.int .i64 p)∧w'.cell? ⟨w.heap.size,1,none⟩=some (.int .i64 13)∧w'.cell? ⟨w.heap.size,2,none⟩=some (.int .i64 n))
    (first | exact⟨i0,i1,i2⟩ | exact⟨(Ab (hg7.own (show wA.drew.heap[_]?=_ from CI) hIB) 0).trans rfl,(Ab (hg7.own (show wA.drew.heap[_]?=_ from CI) hIB) 1).trans rfl,(Ab (hg7.own (show wA.drew.heap[_]?=_ from CI) hIB) 2).trans rfl⟩)
    (first | (go_at_call 190;refine(Aa HM _ ((Aa HA).drew ok)).mono ?_;rintro e w7 ⟨rfl,hA7,hg7⟩))
   go_wp2
   go_end0
   exact⟨rfl,v,hA7⟩
  ·go_enter Tryz.func133,Tryz.ntmps133;go_wp2;generalize w.alloc (O9 p 14 n)=wA at *
   go_region_held3 (fun w'=>w'.cell? ⟨w.heap.size,0,none⟩=some (.int .i64 p)∧w'.cell? ⟨w.heap.size,1,none⟩=some (.int .i64 14)∧w'.cell? ⟨w.heap.size,2,none⟩=some (.int .i64 n))
    (first | exact⟨i0,i1,i2⟩ | exact⟨(Ab (hg7.own (show wA.drew.heap[_]?=_ from CI) hIB) 0).trans rfl,(Ab (hg7.own (show wA.drew.heap[_]?=_ from CI) hIB) 1).trans rfl,(Ab (hg7.own (show wA.drew.heap[_]?=_ from CI) hIB) 2).trans rfl⟩)
    (first | (go_at_call 190;refine(Aa HM _ ((Aa HA).drew ok)).mono ?_;rintro e w7 ⟨rfl,hA7,hg7⟩))
   go_wp2
   go_end0
   exact⟨rfl,v,hA7⟩
end Go.Proofs.YtpcgnjolfahacaaGreat
