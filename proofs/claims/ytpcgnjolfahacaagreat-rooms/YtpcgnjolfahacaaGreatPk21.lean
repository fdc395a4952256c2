/- a part of the proofs -/
import Derived.Deep.RegionHeld3
import Derived.Test.YtpcgnjolfahacaaGreatPk20
set_option maxRecDepth 100000
set_option maxHeartbeats 40000000
set_option linter.unusedVariables false
set_option linter.unusedSimpArgs false
namespace Go.Proofs.YtpcgnjolfahacaaGreat
open Go.RowKit
def Mc.ans (r:Option Nat):Int:=match r with
 | none=>0
 | some t=>(t:Int)
theorem Vb (k:Mc.K) (S:Mc.S) (v:Mc.V) (cl:Int) (w:World) (ok:k.Ok) (h:Mc.At k S v w) (hH:(k.E.meth S.now.meth).handlers.length≤1000∧∀ x∈(k.E.meth S.now.meth).handlers,0≤x.target) :
  Calls Tryz.prog 285 #[.pointer (some ⟨k.B,0,none⟩),.int .i64 cl] w fun e w'=>e=.returned (.tuple #[.int .i64 (Mc.ans (k.E.target cl S.now)),.bool (k.E.target cl S.now).isSome])∧Below w.heap.size w w':=by
 have hm:=Ee k S v S.now.meth w ok h;have c12:=h.sees.c12;have c13:=h.sees.c13;have c2:=h.sees.c2;have c3:=h.sees.c3;have hT:=h.rows.tree ok;have hlt:=h.blk.lt;have hTl:=ok.tl;unfold Mc.E.target;have eT:k.E.T=k.T:=rfl;rw[eT];generalize k.E.meth S.now.meth=M at *;generalize hr:Mc.targetOf k.T cl S.now.pos M.handlers=r;have HR:Hid (Mc.targetOf k.T cl S.now.pos (M.handlers.drop 0)=r):=hr;obtain⟨hh1,hh2⟩:=hH;have HM:=Ac hm;clear hm h hr eT;go_enter Tryz.func285,Tryz.ntmps285;go_wp2_with fail
 refine(Aa HM).mono ?_;rintro e w1 ⟨m,rfl,hM,hb1⟩;have hHs:=hM.hs;have hHl:=hM.hl;obtain⟨m1,m2,m3,m4,m5,m6,m7,m8,m9,ma,mb,mc,md,me,mf,mg,mh,mi⟩:=m;simp only at hHs hHl;subst hHl;simp only[PM.val];have hfd:∀ w:World,(Instr.field 133 (.agg #[.int .i64 m1,.int .i64 m2,.slice m3 m4 m5,.int .i64 m6,.int .i64 m7,.int .i64 m8,.int .i64 m9,.slice ma mb mc,.slice md M.handlers.length mf,.slice mg mh mi]) 7).run Tryz.prog w=.ok (.slice md M.handlers.length mf) w:=fun _=>by kernel_rfl
 clear HM hM;go_wp2;clear hfd
 go_loopw [17] (fun i wr=>∃ q:Nat,q≤M.handlers.length∧i=.int .i64 (q:Int)∧Hid (Mc.targetOf k.T cl S.now.pos (M.handlers.drop q)=r)∧Below w1.heap.size w1 wr)
  (fun i _=>M.handlers.length-(intOf i).toNat)
 case atStart=>exact⟨0,by omega,rfl,HR,Below.refl _ _⟩
 case round =>
  obtain⟨q,hq,rfl,HR,hB⟩:=hrel;have hBw:=QB hb1 hB;by_cases hqn:q<M.handlers.length
  ·obtain⟨g,hg,hglt,_,hcell⟩:=Aw hHs (by omega);have y0:=(hB.cell (p:=⟨g,q*4+0,none⟩) hglt).trans ((hcell _ (Av M.handlers q hqn 0 (by omega)).2).trans (Av M.handlers q hqn 0 (by omega)).1);have y1:=(hB.cell (p:=⟨g,q*4+1,none⟩) hglt).trans ((hcell _ (Av M.handlers q hqn 1 (by omega)).2).trans (Av M.handlers q hqn 1 (by omega)).1);have y2:=(hB.cell (p:=⟨g,q*4+2,none⟩) hglt).trans ((hcell _ (Av M.handlers q hqn 2 (by omega)).2).trans (Av M.handlers q hqn 2 (by omega)).1);have y3:=(hB.cell (p:=⟨g,q*4+3,none⟩) hglt).trans ((hcell _ (Av M.handlers q hqn 3 (by omega)).2).trans (Av M.handlers q hqn 3 (by omega)).1);have hmem:=hh2 _ (List.getElem_mem hqn);have hd:M.handlers.drop q=M.handlers[q]::M.handlers.drop (q+1):=by rw[List.drop_eq_getElem_cons hqn]
   have hr:=Aa HR;rw[hd,Mc.targetOf]at hr;generalize M.handlers[q]=x at *;obtain⟨h1,h2,h3,h4⟩:=x;simp only at y0 y1 y2 y3 hmem hr;have d2:=(hBw.cell (p:=⟨k.B,2,none⟩) hlt).trans c2;have d3:=(hBw.cell (p:=⟨k.B,3,none⟩) hlt).trans c3;have d13:=(hBw.cell (p:=⟨k.B,13,none⟩) hlt).trans c13;have hlr:k.B<wr.heap.size:=Nat.lt_of_lt_of_le hlt hBw.size;have hT2:=hT.below hBw;have hCo:=fun w=>Iq ⟨h1,h2,h3,h4⟩ (S.now.pos:Int) w;have hWi:=fun w hT=>Dk (ya:=k.ya) (yn:=k.lf.length) (yc:=k.yc) k.T k.tg k.tc cl h4 w hTl hT;have qb:(q:Int)<(M.handlers.length:Int):=by omega
   have hBx:=hB.alloc hB.size (O13 h1 h2 h3 h4);have CH:=Ae wr (O13 h1 h2 h3 h4);subst hg;simp at y0 y1 y2 y3;clear hcell hd HR hHs;have lH:=lt_of_block CH;obtain⟨f0,f1,f2,f3⟩:=cl4 CH;have hba:Below wr.heap.size wr (wr.alloc (O13 h1 h2 h3 h4)):=QN _;have e2:=(hba.cell (p:=⟨k.B,2,none⟩) hlr).trans d2;have e3:=(hba.cell (p:=⟨k.B,3,none⟩) hlr).trans d3;have e13:=(hba.cell (p:=⟨k.B,13,none⟩) hlr).trans d13;have hTA:=hT2.below hba;have lB:k.B<(wr.alloc (O13 h1 h2 h3 h4)).heap.size:=Nat.lt_of_lt_of_le hlr hba.size;have hBA:=QB hBw hba;have HBX:Hid (Below w1.heap.size w1 (wr.alloc (O13 h1 h2 h3 h4))):=hBx;generalize hcv:Aic ⟨h1,h2,h3,h4⟩ (S.now.pos:Int)=CV at *;generalize hwi:Tr.within k.T cl h4=WI at *;clear hcv hwi;cases CV with
   | false =>
    rw[Bool.false_and,if_neg (by simp)]at hr;have HR2:=Ac hr;clear hr hWi;go_wp2;generalize (wr.alloc (O13 h1 h2 h3 h4))=wA at *;simp at f0 f1 f2 f3;refine wp_region_held_drew (S:=(fun w'=>w'.cell? ⟨wr.heap.size,0,none⟩=some (.int .i64 h1)∧w'.cell? ⟨wr.heap.size,1,none⟩=some (.int .i64 h2)∧w'.cell? ⟨wr.heap.size,2,none⟩=some (.int .i64 h3)∧w'.cell? ⟨wr.heap.size,3,none⟩=some (.int .i64 h4)∧w'.cell? ⟨k.B,13,none⟩=some (.int .i64 (S.now.pos:Int))∧w'.cell? ⟨k.B,2,none⟩=some (.slice (some ⟨k.tg,0,none⟩) k.T.length k.tc)∧w'.cell? ⟨k.B,3,none⟩=some (.slice k.ya k.lf.length k.yc))) (by kernel_rfl) ⟨f0,f1,f2,f3,e13,e2,e3⟩ (fun hHeld=>?_);refine wpAnyH_take (i:=0) (oi:=⟨_,_,_,_,_,_⟩) (v:=.agg #[.int .i64 h1,.int .i64 h2,.int .i64 h3,.int .i64 h4]) rfl (by kernel_rfl) (by kernel_rfl) (by kernel_rfl) (fun _ _ _ h=>h) (Or.inl ⟨by rfl,?_⟩) hHeld ?_
    ·intro w' hSw
     try dsimp only at hSw
     go_simp
    try simp only[QX]
    refine wpAnyH_take (i:=1) (oi:=⟨_,_,_,_,_,_⟩) (v:=.pointer (some ⟨k.B,0,none⟩)) rfl (by kernel_rfl) (by kernel_rfl) (by kernel_rfl) (fun _ _ _ h=>h) (Or.inl ⟨by rfl,?_⟩) hHeld ?_
    ·intro w' hSw
     try dsimp only at hSw
     go_simp
    try simp only[QX]
    refine wpAnyH_take (i:=2) (oi:=⟨_,_,_,_,_,_⟩) (v:=.pointer (some ⟨k.B,0,none⟩)) rfl (by kernel_rfl) (by kernel_rfl) (by kernel_rfl) (fun _ _ _ h=>h) (Or.inl ⟨by rfl,?_⟩) hHeld ?_
    ·intro w' hSw
     try dsimp only at hSw
     go_simp
    try simp only[QX]
    refine wpAnyH_take (i:=3) (oi:=⟨_,_,_,_,_,_⟩) (v:=.pointer (some ⟨k.B,12,none⟩)) rfl (by kernel_rfl) (by kernel_rfl) (by kernel_rfl) (fun _ _ _ h=>h) (Or.inl ⟨by rfl,?_⟩) hHeld ?_
    ·intro w' hSw
     try dsimp only at hSw
     go_simp
    try simp only[QX]
    refine wpAnyH_take (i:=4) (oi:=⟨_,_,_,_,_,_⟩) (v:=.pointer (some ⟨k.B,13,none⟩)) rfl (by kernel_rfl) (by kernel_rfl) (by kernel_rfl) (fun _ _ _ h=>h) (Or.inl ⟨by rfl,?_⟩) hHeld ?_
    ·intro w' hSw
     try dsimp only at hSw
     go_simp
    try simp only[QX]
    refine wpAnyH_take (i:=5) (oi:=⟨_,_,_,_,_,_⟩) (v:=.int .i64 (S.now.pos:Int)) rfl (by kernel_rfl) (by kernel_rfl) (by kernel_rfl) (fun _ _ _ h=>h) (Or.inl ⟨by rfl,?_⟩) hHeld ?_
    ·intro w' hSw
     try dsimp only at hSw
     go_simp
    try simp only[QX]
    refine wpAnyH_ready (rs:=[6]) (by kernel_rfl) (by simp) ?_;refine AllReadyH.cons (o:=⟨_,_,_,_,_,_⟩) rfl (fun K hK=>?_) AllReadyH.nil
    go_simp
    refine(hCo _).mono ?_;rintro e w7 ⟨rfl,hb7⟩
    try dsimp only
    clear hHeld;refine hK.out _ _ ⟨QC hb7 lH f0,QC hb7 lH f1,QC hb7 lH f2,QC hb7 lH f3,QC hb7 lB e13,QC hb7 lB e2,QC hb7 lB e3⟩ (fun hHeld=>?_);clear hK K
    try simp only[QX]
    refine wpAnyH_take (i:=7) (oi:=⟨_,_,_,_,_,_⟩) (v:=.bool false) rfl (by kernel_rfl) (by kernel_rfl) (by kernel_rfl) (fun _ _ _ h=>h) (Or.inl ⟨by rfl,?_⟩) hHeld ?_
    ·intro w' hSw
     try dsimp only at hSw
     go_simp
    try simp only[QX]
    refine wpAnyH_take (i:=8) (oi:=⟨_,_,_,_,_,_⟩) (v:=undef) rfl (by kernel_rfl) (by kernel_rfl) (by kernel_rfl) (fun _ _ _ h=>h) (Or.inr ⟨by rfl,rfl⟩) hHeld ?_
    try simp only[QX]
    refine wpAnyH_take (i:=9) (oi:=⟨_,_,_,_,_,_⟩) (v:=undef) rfl (by kernel_rfl) (by kernel_rfl) (by kernel_rfl) (fun _ _ _ h=>h) (Or.inr ⟨by rfl,rfl⟩) hHeld ?_
    try simp only[QX]
    refine wpAnyH_take (i:=10) (oi:=⟨_,_,_,_,_,_⟩) (v:=undef) rfl (by kernel_rfl) (by kernel_rfl) (by kernel_rfl) (fun _ _ _ h=>h) (Or.inr ⟨by rfl,rfl⟩) hHeld ?_
    try simp only[QX]
    refine wpAnyH_take (i:=11) (oi:=⟨_,_,_,_,_,_⟩) (v:=undef) rfl (by kernel_rfl) (by kernel_rfl) (by kernel_rfl) (fun _ _ _ h=>h) (Or.inr ⟨by rfl,rfl⟩) hHeld ?_
    try simp only[QX]
    refine wpAnyH_take (i:=12) (oi:=⟨_,_,_,_,_,_⟩) (v:=undef) rfl (by kernel_rfl) (by kernel_rfl) (by kernel_rfl) (fun _ _ _ h=>h) (Or.inr ⟨by rfl,rfl⟩) hHeld ?_
    try simp only[QX]
    refine wpAnyH_take (i:=13) (oi:=⟨_,_,_,_,_,_⟩) (v:=undef) rfl (by kernel_rfl) (by kernel_rfl) (by kernel_rfl) (fun _ _ _ h=>h) (Or.inr ⟨by rfl,rfl⟩) hHeld ?_
    try simp only[QX]
    refine wpAnyH_take (i:=14) (oi:=⟨_,_,_,_,_,_⟩) (v:=undef) rfl (by kernel_rfl) (by kernel_rfl) (by kernel_rfl) (fun _ _ _ h=>h) (Or.inr ⟨by rfl,rfl⟩) hHeld ?_
    try simp only[QX]
    refine wpAnyH_take (i:=15) (oi:=⟨_,_,_,_,_,_⟩) (v:=undef) rfl (by kernel_rfl) (by kernel_rfl) (by kernel_rfl) (fun _ _ _ h=>h) (Or.inr ⟨by rfl,rfl⟩) hHeld ?_
    try simp only[QX]
    refine wpAnyH_take (i:=16) (oi:=⟨_,_,_,_,_,_⟩) (v:=.bool false) rfl (by kernel_rfl) (by kernel_rfl) (by kernel_rfl) (fun _ _ _ h=>h) (Or.inl ⟨by rfl,?_⟩) hHeld ?_
    ·intro w' hSw
     try dsimp only at hSw
     go_simp
    try simp only[QX]
    refine wpAnyH_done (by kernel_rfl) ?_ _;have hB7:=(Aa HBX).drew.trans (hb7.mono (Aa HBX).size);clear hHeld f0 f1 f2 f3 e2 e3 e13 hCo;go_wp2
    go_roundw
    case rel=>exact⟨q+1,by omega,by go_num,HR2,hB7⟩
    case measure=>simp[intOf];omega
   | true =>
    rw[Bool.true_and]at hr;cases WI with
    | false =>
     rw[if_neg (by simp)]at hr;have HR2:=Ac hr;clear hr;go_wp2;generalize (wr.alloc (O13 h1 h2 h3 h4))=wA at *;simp at f0 f1 f2 f3;refine wp_region_held_drew (S:=(fun w'=>w'.cell? ⟨wr.heap.size,0,none⟩=some (.int .i64 h1)∧w'.cell? ⟨wr.heap.size,1,none⟩=some (.int .i64 h2)∧w'.cell? ⟨wr.heap.size,2,none⟩=some (.int .i64 h3)∧w'.cell? ⟨wr.heap.size,3,none⟩=some (.int .i64 h4)∧w'.cell? ⟨k.B,13,none⟩=some (.int .i64 (S.now.pos:Int))∧w'.cell? ⟨k.B,2,none⟩=some (.slice (some ⟨k.tg,0,none⟩) k.T.length k.tc)∧w'.cell? ⟨k.B,3,none⟩=some (.slice k.ya k.lf.length k.yc))) (by kernel_rfl) ⟨f0,f1,f2,f3,e13,e2,e3⟩ (fun hHeld=>?_);refine wpAnyH_take (i:=0) (oi:=⟨_,_,_,_,_,_⟩) (v:=.agg #[.int .i64 h1,.int .i64 h2,.int .i64 h3,.int .i64 h4]) rfl (by kernel_rfl) (by kernel_rfl) (by kernel_rfl) (fun _ _ _ h=>h) (Or.inl ⟨by rfl,?_⟩) hHeld ?_
     ·intro w' hSw
      try dsimp only at hSw
      go_simp
     try simp only[QX]
     refine wpAnyH_take (i:=1) (oi:=⟨_,_,_,_,_,_⟩) (v:=.pointer (some ⟨k.B,0,none⟩)) rfl (by kernel_rfl) (by kernel_rfl) (by kernel_rfl) (fun _ _ _ h=>h) (Or.inl ⟨by rfl,?_⟩) hHeld ?_
     ·intro w' hSw
      try dsimp only at hSw
      go_simp
     try simp only[QX]
     refine wpAnyH_take (i:=2) (oi:=⟨_,_,_,_,_,_⟩) (v:=.pointer (some ⟨k.B,0,none⟩)) rfl (by kernel_rfl) (by kernel_rfl) (by kernel_rfl) (fun _ _ _ h=>h) (Or.inl ⟨by rfl,?_⟩) hHeld ?_
     ·intro w' hSw
      try dsimp only at hSw
      go_simp
     try simp only[QX]
     refine wpAnyH_take (i:=3) (oi:=⟨_,_,_,_,_,_⟩) (v:=.pointer (some ⟨k.B,12,none⟩)) rfl (by kernel_rfl) (by kernel_rfl) (by kernel_rfl) (fun _ _ _ h=>h) (Or.inl ⟨by rfl,?_⟩) hHeld ?_
     ·intro w' hSw
      try dsimp only at hSw
      go_simp
     try simp only[QX]
     refine wpAnyH_take (i:=4) (oi:=⟨_,_,_,_,_,_⟩) (v:=.pointer (some ⟨k.B,13,none⟩)) rfl (by kernel_rfl) (by kernel_rfl) (by kernel_rfl) (fun _ _ _ h=>h) (Or.inl ⟨by rfl,?_⟩) hHeld ?_
     ·intro w' hSw
      try dsimp only at hSw
      go_simp
     try simp only[QX]
     refine wpAnyH_take (i:=5) (oi:=⟨_,_,_,_,_,_⟩) (v:=.int .i64 (S.now.pos:Int)) rfl (by kernel_rfl) (by kernel_rfl) (by kernel_rfl) (fun _ _ _ h=>h) (Or.inl ⟨by rfl,?_⟩) hHeld ?_
     ·intro w' hSw
      try dsimp only at hSw
      go_simp
     try simp only[QX]
     refine wpAnyH_ready (rs:=[6]) (by kernel_rfl) (by simp) ?_;refine AllReadyH.cons (o:=⟨_,_,_,_,_,_⟩) rfl (fun K hK=>?_) AllReadyH.nil
     go_simp
     refine(hCo _).mono ?_;rintro e w7 ⟨rfl,hb7⟩
     try dsimp only
     clear hHeld;refine hK.out _ _ ⟨QC hb7 lH f0,QC hb7 lH f1,QC hb7 lH f2,QC hb7 lH f3,QC hb7 lB e13,QC hb7 lB e2,QC hb7 lB e3⟩ (fun hHeld=>?_);clear hK K
     try simp only[QX]
     refine wpAnyH_take (i:=7) (oi:=⟨_,_,_,_,_,_⟩) (v:=.bool true) rfl (by kernel_rfl) (by kernel_rfl) (by kernel_rfl) (fun _ _ _ h=>h) (Or.inl ⟨by rfl,?_⟩) hHeld ?_
     ·intro w' hSw
      try dsimp only at hSw
      go_simp
     try simp only[QX]
     refine wpAnyH_take (i:=8) (oi:=⟨_,_,_,_,_,_⟩) (v:=.pointer (some ⟨k.B,0,none⟩)) rfl (by kernel_rfl) (by kernel_rfl) (by kernel_rfl) (fun _ _ _ h=>h) (Or.inl ⟨by rfl,?_⟩) hHeld ?_
     ·intro w' hSw
      try dsimp only at hSw
      go_simp
     try simp only[QX]
     refine wpAnyH_take (i:=9) (oi:=⟨_,_,_,_,_,_⟩) (v:=.pointer (some ⟨k.B,0,none⟩)) rfl (by kernel_rfl) (by kernel_rfl) (by kernel_rfl) (fun _ _ _ h=>h) (Or.inl ⟨by rfl,?_⟩) hHeld ?_
     ·intro w' hSw
      try dsimp only at hSw
      go_simp
     try simp only[QX]
     refine wpAnyH_take (i:=10) (oi:=⟨_,_,_,_,_,_⟩) (v:=.pointer (some ⟨k.B,2,none⟩)) rfl (by kernel_rfl) (by kernel_rfl) (by kernel_rfl) (fun _ _ _ h=>h) (Or.inl ⟨by rfl,?_⟩) hHeld ?_
     ·intro w' hSw
      try dsimp only at hSw
      go_simp
     try simp only[QX]
     refine wpAnyH_take (i:=11) (oi:=⟨_,_,_,_,_,_⟩) (v:=.agg #[.slice (some ⟨k.tg,0,none⟩) k.T.length k.tc,.slice k.ya k.lf.length k.yc]) rfl (by kernel_rfl) (by kernel_rfl) (by kernel_rfl) (fun _ _ _ h=>h) (Or.inl ⟨by rfl,?_⟩) hHeld ?_
     ·intro w' hSw
      try dsimp only at hSw
      go_simp
     try simp only[QX]
     refine wpAnyH_take (i:=12) (oi:=⟨_,_,_,_,_,_⟩) (v:=.int .i64 cl) rfl (by kernel_rfl) (by kernel_rfl) (by kernel_rfl) (fun _ _ _ h=>h) (Or.inl ⟨by rfl,?_⟩) hHeld ?_
     ·intro w' hSw
      try dsimp only at hSw
      go_simp
     try simp only[QX]
     refine wpAnyH_take (i:=13) (oi:=⟨_,_,_,_,_,_⟩) (v:=.pointer (some ⟨wr.heap.size,3,none⟩)) rfl (by kernel_rfl) (by kernel_rfl) (by kernel_rfl) (fun _ _ _ h=>h) (Or.inl ⟨by rfl,?_⟩) hHeld ?_
     ·intro w' hSw
      try dsimp only at hSw
      go_simp
     try simp only[QX]
     refine wpAnyH_take (i:=14) (oi:=⟨_,_,_,_,_,_⟩) (v:=.int .i64 h4) rfl (by kernel_rfl) (by kernel_rfl) (by kernel_rfl) (fun _ _ _ h=>h) (Or.inl ⟨by rfl,?_⟩) hHeld ?_
     ·intro w' hSw
      try dsimp only at hSw
      go_simp
     try simp only[QX]
     refine wpAnyH_ready (rs:=[15]) (by kernel_rfl) (by simp) ?_;refine AllReadyH.cons (o:=⟨_,_,_,_,_,_⟩) rfl (fun K hK=>?_) AllReadyH.nil
     go_simp
     refine(hWi _ ((show TreeIn wA.drew k.tg k.T from hTA).below hb7)).mono ?_;rintro e w8 ⟨rfl,hb8⟩
     try dsimp only
     clear hHeld;refine hK.out _ _ ⟨QC hb8 (QL hb7 lH) (QC hb7 lH f0),QC hb8 (QL hb7 lH) (QC hb7 lH f1),QC hb8 (QL hb7 lH) (QC hb7 lH f2),QC hb8 (QL hb7 lH) (QC hb7 lH f3),QC hb8 (QL hb7 lB) (QC hb7 lB e13),QC hb8 (QL hb7 lB) (QC hb7 lB e2),QC hb8 (QL hb7 lB) (QC hb7 lB e3)⟩ (fun hHeld=>?_);clear hK K
     try simp only[QX]
     refine wpAnyH_take (i:=16) (oi:=⟨_,_,_,_,_,_⟩) (v:=.bool false) rfl (by kernel_rfl) (by kernel_rfl) (by kernel_rfl) (fun _ _ _ h=>h) (Or.inl ⟨by rfl,?_⟩) hHeld ?_
     ·intro w' hSw
      try dsimp only at hSw
      go_simp
     try simp only[QX]
     refine wpAnyH_done (by kernel_rfl) ?_ _;have hB7:=(Aa HBX).drew.trans (hb7.mono (Aa HBX).size);have hB8:=QB hB7 hb8;clear hHeld f0 f1 f2 f3 e2 e3 e13 hCo hWi;go_wp2
     go_roundw
     case rel=>exact⟨q+1,by omega,by go_num,HR2,hB8⟩
     case measure=>simp[intOf];omega
    | true =>
     rw[if_pos rfl]at hr;have HR2:Hid (Mc.ans r=h3∧r.isSome=true):=by
      unfold Hid;rw[← hr];exact⟨by show ((h3.toNat:Nat):Int)=h3;omega,rfl⟩
     clear hr;go_wp2;generalize (wr.alloc (O13 h1 h2 h3 h4))=wA at *;simp at f0 f1 f2 f3;refine wp_region_held_drew (S:=(fun w'=>w'.cell? ⟨wr.heap.size,0,none⟩=some (.int .i64 h1)∧w'.cell? ⟨wr.heap.size,1,none⟩=some (.int .i64 h2)∧w'.cell? ⟨wr.heap.size,2,none⟩=some (.int .i64 h3)∧w'.cell? ⟨wr.heap.size,3,none⟩=some (.int .i64 h4)∧w'.cell? ⟨k.B,13,none⟩=some (.int .i64 (S.now.pos:Int))∧w'.cell? ⟨k.B,2,none⟩=some (.slice (some ⟨k.tg,0,none⟩) k.T.length k.tc)∧w'.cell? ⟨k.B,3,none⟩=some (.slice k.ya k.lf.length k.yc))) (by kernel_rfl) ⟨f0,f1,f2,f3,e13,e2,e3⟩ (fun hHeld=>?_);refine wpAnyH_take (i:=0) (oi:=⟨_,_,_,_,_,_⟩) (v:=.agg #[.int .i64 h1,.int .i64 h2,.int .i64 h3,.int .i64 h4]) rfl (by kernel_rfl) (by kernel_rfl) (by kernel_rfl) (fun _ _ _ h=>h) (Or.inl ⟨by rfl,?_⟩) hHeld ?_
     ·intro w' hSw
      try dsimp only at hSw
      go_simp
     try simp only[QX]
     refine wpAnyH_take (i:=1) (oi:=⟨_,_,_,_,_,_⟩) (v:=.pointer (some ⟨k.B,0,none⟩)) rfl (by kernel_rfl) (by kernel_rfl) (by kernel_rfl) (fun _ _ _ h=>h) (Or.inl ⟨by rfl,?_⟩) hHeld ?_
     ·intro w' hSw
      try dsimp only at hSw
      go_simp
     try simp only[QX]
     refine wpAnyH_take (i:=2) (oi:=⟨_,_,_,_,_,_⟩) (v:=.pointer (some ⟨k.B,0,none⟩)) rfl (by kernel_rfl) (by kernel_rfl) (by kernel_rfl) (fun _ _ _ h=>h) (Or.inl ⟨by rfl,?_⟩) hHeld ?_
     ·intro w' hSw
      try dsimp only at hSw
      go_simp
     try simp only[QX]
     refine wpAnyH_take (i:=3) (oi:=⟨_,_,_,_,_,_⟩) (v:=.pointer (some ⟨k.B,12,none⟩)) rfl (by kernel_rfl) (by kernel_rfl) (by kernel_rfl) (fun _ _ _ h=>h) (Or.inl ⟨by rfl,?_⟩) hHeld ?_
     ·intro w' hSw
      try dsimp only at hSw
      go_simp
     try simp only[QX]
     refine wpAnyH_take (i:=4) (oi:=⟨_,_,_,_,_,_⟩) (v:=.pointer (some ⟨k.B,13,none⟩)) rfl (by kernel_rfl) (by kernel_rfl) (by kernel_rfl) (fun _ _ _ h=>h) (Or.inl ⟨by rfl,?_⟩) hHeld ?_
     ·intro w' hSw
      try dsimp only at hSw
      go_simp
     try simp only[QX]
     refine wpAnyH_take (i:=5) (oi:=⟨_,_,_,_,_,_⟩) (v:=.int .i64 (S.now.pos:Int)) rfl (by kernel_rfl) (by kernel_rfl) (by kernel_rfl) (fun _ _ _ h=>h) (Or.inl ⟨by rfl,?_⟩) hHeld ?_
     ·intro w' hSw
      try dsimp only at hSw
      go_simp
     try simp only[QX]
     refine wpAnyH_ready (rs:=[6]) (by kernel_rfl) (by simp) ?_;refine AllReadyH.cons (o:=⟨_,_,_,_,_,_⟩) rfl (fun K hK=>?_) AllReadyH.nil
     go_simp
     refine(hCo _).mono ?_;rintro e w7 ⟨rfl,hb7⟩
     try dsimp only
     clear hHeld;refine hK.out _ _ ⟨QC hb7 lH f0,QC hb7 lH f1,QC hb7 lH f2,QC hb7 lH f3,QC hb7 lB e13,QC hb7 lB e2,QC hb7 lB e3⟩ (fun hHeld=>?_);clear hK K
     try simp only[QX]
     refine wpAnyH_take (i:=7) (oi:=⟨_,_,_,_,_,_⟩) (v:=.bool true) rfl (by kernel_rfl) (by kernel_rfl) (by kernel_rfl) (fun _ _ _ h=>h) (Or.inl ⟨by rfl,?_⟩) hHeld ?_
     ·intro w' hSw
      try dsimp only at hSw
      go_simp
     try simp only[QX]
     refine wpAnyH_take (i:=8) (oi:=⟨_,_,_,_,_,_⟩) (v:=.pointer (some ⟨k.B,0,none⟩)) rfl (by kernel_rfl) (by kernel_rfl) (by kernel_rfl) (fun _ _ _ h=>h) (Or.inl ⟨by rfl,?_⟩) hHeld ?_
     ·intro w' hSw
      try dsimp only at hSw
      go_simp
     try simp only[QX]
     refine wpAnyH_take (i:=9) (oi:=⟨_,_,_,_,_,_⟩) (v:=.pointer (some ⟨k.B,0,none⟩)) rfl (by kernel_rfl) (by kernel_rfl) (by kernel_rfl) (fun _ _ _ h=>h) (Or.inl ⟨by rfl,?_⟩) hHeld ?_
     ·intro w' hSw
      try dsimp only at hSw
      go_simp
     try simp only[QX]
     refine wpAnyH_take (i:=10) (oi:=⟨_,_,_,_,_,_⟩) (v:=.pointer (some ⟨k.B,2,none⟩)) rfl (by kernel_rfl) (by kernel_rfl) (by kernel_rfl) (fun _ _ _ h=>h) (Or.inl ⟨by rfl,?_⟩) hHeld ?_
     ·intro w' hSw
      try dsimp only at hSw
      go_simp
     try simp only[QX]
     refine wpAnyH_take (i:=11) (oi:=⟨_,_,_,_,_,_⟩) (v:=.agg #[.slice (some ⟨k.tg,0,none⟩) k.T.length k.tc,.slice k.ya k.lf.length k.yc]) rfl (by kernel_rfl) (by kernel_rfl) (by kernel_rfl) (fun _ _ _ h=>h) (Or.inl ⟨by rfl,?_⟩) hHeld ?_
     ·intro w' hSw
      try dsimp only at hSw
      go_simp
     try simp only[QX]
     refine wpAnyH_take (i:=12) (oi:=⟨_,_,_,_,_,_⟩) (v:=.int .i64 cl) rfl (by kernel_rfl) (by kernel_rfl) (by kernel_rfl) (fun _ _ _ h=>h) (Or.inl ⟨by rfl,?_⟩) hHeld ?_
     ·intro w' hSw
      try dsimp only at hSw
      go_simp
     try simp only[QX]
     refine wpAnyH_take (i:=13) (oi:=⟨_,_,_,_,_,_⟩) (v:=.pointer (some ⟨wr.heap.size,3,none⟩)) rfl (by kernel_rfl) (by kernel_rfl) (by kernel_rfl) (fun _ _ _ h=>h) (Or.inl ⟨by rfl,?_⟩) hHeld ?_
     ·intro w' hSw
      try dsimp only at hSw
      go_simp
     try simp only[QX]
     refine wpAnyH_take (i:=14) (oi:=⟨_,_,_,_,_,_⟩) (v:=.int .i64 h4) rfl (by kernel_rfl) (by kernel_rfl) (by kernel_rfl) (fun _ _ _ h=>h) (Or.inl ⟨by rfl,?_⟩) hHeld ?_
     ·intro w' hSw
      try dsimp only at hSw
      go_simp
     try simp only[QX]
     refine wpAnyH_ready (rs:=[15]) (by kernel_rfl) (by simp) ?_;refine AllReadyH.cons (o:=⟨_,_,_,_,_,_⟩) rfl (fun K hK=>?_) AllReadyH.nil
     go_simp
     refine(hWi _ ((show TreeIn wA.drew k.tg k.T from hTA).below hb7)).mono ?_;rintro e w8 ⟨rfl,hb8⟩
     try dsimp only
     clear hHeld;refine hK.out _ _ ⟨QC hb8 (QL hb7 lH) (QC hb7 lH f0),QC hb8 (QL hb7 lH) (QC hb7 lH f1),QC hb8 (QL hb7 lH) (QC hb7 lH f2),QC hb8 (QL hb7 lH) (QC hb7 lH f3),QC hb8 (QL hb7 lB) (QC hb7 lB e13),QC hb8 (QL hb7 lB) (QC hb7 lB e2),QC hb8 (QL hb7 lB) (QC hb7 lB e3)⟩ (fun hHeld=>?_);clear hK K
     try simp only[QX]
     refine wpAnyH_take (i:=16) (oi:=⟨_,_,_,_,_,_⟩) (v:=.bool true) rfl (by kernel_rfl) (by kernel_rfl) (by kernel_rfl) (fun _ _ _ h=>h) (Or.inl ⟨by rfl,?_⟩) hHeld ?_
     ·intro w' hSw
      try dsimp only at hSw
      go_simp
     try simp only[QX]
     refine wpAnyH_done (by kernel_rfl) ?_ _;have hB7:=hBA.drew.trans (hb7.mono hBA.size);have hB8:=QB hB7 hb8;have f2':=QC hb8 (QL hb7 lH) (QC hb7 lH f2);clear hHeld f0 f1 f2 f3 e2 e3 e13 hCo hWi;go_wp2;go_ret2;refine⟨?_,hB8⟩;rw[(Aa HR2).1,(Aa HR2).2];rfl
  ·have hqq:q=M.handlers.length:=by omega
   subst hqq;have hr:=Aa HR;rw[List.drop_length]at hr;have hr':r=none:=hr.symm;clear hr HR;subst hr';go_wp2;go_ret2;exact⟨rfl,hBw⟩
theorem Mc.K.Ok.hm {k:Mc.K} (ok:k.Ok) (n:Int):(k.E.meth n).handlers.length≤1000∧∀ x∈(k.E.meth n).handlers,0≤x.target:=by
 unfold Mc.E.meth
 split
 ·exact⟨by simp[Mc.noMeth],fun x hx=>by simp[Mc.noMeth]at hx⟩
 ·split
  ·exact⟨by simp[Mc.noMeth],fun x hx=>by simp[Mc.noMeth]at hx⟩
  ·rename_i h0 h1;have hl:k.E.ms.length=k.lms.length:=by simp[Mc.K.E]
   have hi:n.toNat<k.lms.length:=by omega
   have e:k.E.ms.getD n.toNat Mc.noMeth=k.lms[n.toNat].1:=by
    rw[List.getD_eq_getElem?_getD];simp[Mc.K.E,hi]
   rw[e];obtain⟨a,b⟩:=ok.hn _ (List.getElem_mem hi);exact⟨a,fun x hx=>(b x hx).1⟩
def Mc.wl (k:Mc.K) (w:World):Nat:=match w.cell? ⟨k.B,32,none⟩ with
 | some (.slice _ n _)=>n
 | _=>0
theorem Mc.At.wl {k:Mc.K}{S:Mc.S}{v:Mc.V}{w:World} (h:Mc.At k S v w):Mc.wl k w=S.wait.length:=by
 unfold Mc.wl;rw[h.sees.c32]
def Mc.om:Value→Nat
 | .bool true=>1
 | _=>0
theorem Mw (k:Mc.K) (S:Mc.S) (v:Mc.V) (o:Int) (w:World) (ok:k.Ok) (h:Mc.At k S v w) :
  Calls Tryz.prog 253 #[.pointer (some ⟨k.B,0,none⟩),.int .i64 o] w fun e w'=>e=.returned (.tuple #[])∧∃ v',Mc.At k (Mc.throw k.E o S) v' w':=by
 have hC:=Ho k S v o w h;unfold Mc.throw;generalize Mc.classOf o S.objs=cl at *;generalize hR:Mc.throwN k.E o cl (S.wait.length+1) S=R;have HR:=Ac hR;have hTg:=fun S v w h=>Vb k S v cl w ok h (ok.hm S.now.meth);have HT:=Ac hTg;have HA:=Ac h;clear hR hTg h;go_enter Tryz.func253,Tryz.ntmps253;go_wp2_with fail
 refine hC.mono ?_;rintro e w1 ⟨rfl,rfl⟩;go_wp2
 go_loopw [5] (fun b wr=>∃ (S':Mc.S) (v':Mc.V),Hid (Mc.At k S' v' wr)∧((b=.bool true∧Hid (Mc.throwN k.E o cl (S'.wait.length+1) S'=R))∨(b=.bool false∧Hid (S'.fin 2 cl=R))))
  (fun b wr=>Mc.om b*(1+Mc.wl k wr))
 case atStart=>exact⟨S,v,HA,.inl ⟨rfl,HR⟩⟩
 case round =>
  clear HR HA hC;obtain⟨S',v',HA,⟨rfl,HR⟩ | ⟨rfl,HR⟩⟩:=hrel
  ·have hA:=Aa HA;have hT:=Aa HT S' v' wr hA;have hr:=Aa HR;rw[Mc.throwN]at hr;have hwl:=hA.wl;cases ht:k.E.target cl S'.now with
   | some t =>
    rw[ht]at hT hr;simp only at hr;have HR2:=Ac hr;clear hr HR HA;go_wp2_with fail
    refine hT.mono ?_;rintro e w2 ⟨rfl,hb2⟩;have hA2:=hA.gr ok hb2;have hTk:=Yx S'.now o t k.B 12 156 _ _ w2 rfl hA2.wf hA2.blk;simp only[Mc.ans,Option.isSome];go_wp2_with fail
    refine hTk.mono ?_;rintro e w3 ⟨rfl,h3,hg3⟩;have hA3:=hA2.now ok hg3 (Aed hA2.wf o t) h3;go_wp2;refine bodyPost_ret (v:=.tuple #[]) (by simp[results,Tryz.results253,go_sem]) rfl ?_;exact⟨rfl,v',by rw[← Aa HR2];exact hA3⟩
   | none =>
    rw[ht]at hT hr;simp only at hr;have hA:=Aa HA;cases hw:S'.wait.getLast? with
    | none =>
     rw[hw]at hr;simp only at hr;have hw0:S'.wait=[]:=by simpa using hw
     have HR2:=Ac hr;have hE:=fun w h=>Ta k S' v' w h hw0;clear hr HR HA ht hw;go_wp2_with fail
     refine hT.mono ?_;rintro e w2 ⟨rfl,hb2⟩;have hA2:=hA.gr ok hb2;simp only[Mc.ans,Option.isSome];go_wp2_with fail
     refine(hE _ hA2).mono ?_;rintro e w3 ⟨rfl,hA3⟩;have HA3:=Ac hA3;go_wp2
     go_roundw
     case rel=>exact⟨S',v',HA3,.inr ⟨rfl,HR2⟩⟩
     case measure=>simp[Mc.om];omega
    | some c =>
     rw[hw]at hr;simp only at hr;have hw0:S'.wait=S'.wait.dropLast++[c]:=by
      have:=List.getLast?_eq_some_iff.1 hw;obtain⟨ys,e⟩:=this;rw[e];simp
     have hlen:S'.wait.length=S'.wait.dropLast.length+1:=by
      conv=>lhs;rw[hw0]
      simp
     rw[hlen]at hr;have HR2:=Ac hr;have hE:=fun w h=>Js k S' v' _ c w ok h hw0;generalize S'.wait.dropLast=W at *;have HL:=Ac hlen;clear hr HR HA ht hw hw0 hlen;go_wp2_with fail
     refine hT.mono ?_;rintro e w2 ⟨rfl,hb2⟩;have hA2:=hA.gr ok hb2;simp only[Mc.ans,Option.isSome];go_wp2_with fail
     refine(hE _ hA2).mono ?_;rintro e w3 ⟨rfl,hA3⟩;have hwl3:=hA3.wl;have HA3:=Ac hA3;go_wp2
     go_roundw
     case rel=>exact⟨_,v',HA3,.inl ⟨rfl,HR2⟩⟩
     case measure =>
      have:=Aa HL;simp[Mc.om,hwl,hwl3];omega
  ·have hA:=Aa HA;have hE:=Lr k S' v' 2 cl wr ok hA;have HR2:=HR;clear HR HA HT;go_wp2_with fail
   refine hE.mono ?_;rintro e w2 ⟨rfl,hA2⟩;go_wp2
   go_end0
   exact⟨rfl,v',by rw[← Aa HR2];exact hA2⟩
theorem Bm (k:Mc.K) (S:Mc.S) (v:Mc.V) (cl:Int) (w:World) (ok:k.Ok) (h:Mc.At k S v w) (h0:0≤cl) (h1:cl≤100) :
  Calls Tryz.prog 242 #[.pointer (some ⟨k.B,0,none⟩),.int .i64 cl] w fun e w'=>e=.returned (.tuple #[])∧∃ v',Mc.At k (Mc.throwGiven k.E cl S) v' w':=by
 have hG:=U8 cl w h0 h1;have hT:=Mw k S v (cl-2+1) w ok h;unfold Mc.throwGiven;generalize Mc.throw k.E (cl-2+1) S=R at *;generalize cl-2+1=o at *;clear h;go_enter Tryz.func242,Tryz.ntmps242;go_wp2_with fail
 refine hG.mono ?_;rintro e w1 ⟨rfl,rfl⟩;go_wp2_with fail
 refine hT.mono ?_;rintro e w2 ⟨rfl,v',hA⟩;go_wp2
 go_end0
 exact⟨rfl,v',hA⟩
theorem D6 (k:Mc.K) (S:Mc.S) (v:Mc.V) (w:World) (ok:k.Ok) (h:Mc.At k S v w) :
  Calls Tryz.prog 240 #[.pointer (some ⟨k.B,12,none⟩)] w fun e w'=>e=.returned (.int .i64 S.top)∧Mc.At k S.popped v w' :=
 (Bu S.now k.B 12 156 _ _ w rfl h.wf h.blk).mono fun _ _ ⟨he,hM,hg⟩=>⟨he,h.now ok hg (A5 h.wf) hM⟩
theorem Dx (k:Mc.K) (S:Mc.S) (v:Mc.V) (x:Int) (w:World) (ok:k.Ok) (h:Mc.At k S v w) :
  Calls Tryz.prog 238 #[.pointer (some ⟨k.B,12,none⟩),.int .i64 x] w fun e w'=>e=.returned (.tuple #[])∧Mc.At k (S.push x) v w' :=
 (Cw S.now x k.B 12 156 _ _ w rfl h.wf h.blk).mono fun _ _ ⟨he,hM,hg⟩=>⟨he,h.now ok hg (Dd h.wf x) hM⟩
theorem Mc.Rows.addX {k:Mc.K}{objs:List (Int × List Int)}{wait:List Mc.Call}{out:List Int}{v:Mc.V}{w w':World} (h:Mc.Rows k objs wait out v w) (ok:k.Ok) {cs:List Value} (hB:w.heap[k.B]?=some (.cells cs.toArray 156 (0,0))) {x:Int}{xa:Option Addr}{xc:Nat}
  (ho:w'.ownsRow k.w0.heap.size 3 1 (.slice xa (out.length+1) xc) (out.length+1) (out.map (Value.int .i64)++[.int .i64 x])) (hg:w.grownBy w' (Value.slice v.xa out.length v.xc).ownBlock)
  (hat:(Value.slice xa (out.length+1) xc).ownBlock=(Value.slice v.xa out.length v.xc).ownBlock∨(Value.slice xa (out.length+1) xc).ownBlock=some w.heap.size) :
  Mc.Rows k objs wait (out++[x]) ⟨v.oa,v.oc,v.wa,v.wc,xa,xc,v.ov⟩ w'∧w'.heap[k.B]?=w.heap[k.B]?:=by
 have hob:=h.out;have hblk:∀ g,(Value.slice v.xa out.length v.xc).ownBlock=some g→∃ cs:List Value,w.heap[g]?=some (.cells cs.toArray 3 (0,0)):=fun g hgo=>by
  obtain⟨_,⟨hv,_⟩|⟨g',cap,cur,hv,_,hg,_⟩⟩:=hob
  ·rw[hv]at hgo;simp[Value.ownBlock]at hgo
  ·rw[hv]at hgo;simp only[Value.ownBlock,Option.some.injEq]at hgo;subst hgo;exact⟨cur.toList,by simpa using hg⟩
 have other:∀ {b e size n:Nat}{x:Value}{xs:List Value},w.ownsRow b e size x n xs→e≠3→w'.ownsRow b e size x n xs:=fun hr he=>Bk hr (fun q hq=>hg.block q (hr.lt q hq).2 (fun e=>by
  obtain⟨cs,hc⟩:=hblk q e.symm;exact Bc hr hc he q hq rfl))
 have hBs:=ok.Bs;have hol:=h.ovl;have hbB:w'.heap[k.B]?=w.heap[k.B]?:=hg.block k.B (lt_of_block hB) (fun e=>Bc hob hB (by decide) k.B e.symm rfl);refine⟨⟨other h.objs (by decide),h.ovl,h.obk,fun q hq=>?_,other h.wait (by decide),h.wwf,?_,?_,fun q h1 h2 h3=>?_,?_,Nat.le_trans h.szs hg.size⟩,hbB⟩
 ·exact Bk (h.flds q hq) (fun j hj=>hg.block j ((h.flds q hq).lt j hj).2 (fun e=>h.out_ne hq hj e.symm))
 ·unfold IntsAt;rw[List.length_append,List.length_singleton,List.map_append];exact ho
 ·rw[List.length_append,List.length_singleton];rcases hat with e | e
  ·have:(Value.slice xa (out.length+1) xc::v.ov).filterMap Value.ownBlock=(Value.slice v.xa out.length v.xc::v.ov).filterMap Value.ownBlock:=by
    simp only[List.filterMap_cons,e]
   show ((Value.slice xa (out.length+1) xc::v.ov).filterMap Value.ownBlock).Nodup;rw[this];exact h.nd
  ·show ((Value.slice xa (out.length+1) xc::v.ov).filterMap Value.ownBlock).Nodup;rw[List.filterMap_cons_some e];have hn:=h.nd;refine List.nodup_cons.2 ⟨fun hm=>?_,?_⟩
   ·obtain⟨u,hu,hu'⟩:=List.mem_filterMap.1 hm;obtain⟨i,hi,rfl⟩:=List.getElem_of_mem hu;have hi':i<objs.length:=by omega
    have e2:v.ov.getD i (.slice none 0 0)=v.ov[i]:=by rw[List.getD_eq_getElem?_getD,List.getElem?_eq_getElem hi];rfl
    have:=((h.flds i hi').lt w.heap.size (by rw[e2];exact hu')).2;omega
   ·cases hx:(Value.slice v.xa out.length v.xc).ownBlock with
    | none=>rw[List.filterMap_cons_none hx]at hn;exact hn
    | some y=>rw[List.filterMap_cons_some hx]at hn;exact(List.nodup_cons.1 hn).2
 ·rw[hg.block q (Nat.lt_of_lt_of_le h1 h.szs) (fun e=>by have:=(hob.lt q e.symm).1;omega)];exact h.keep q h1 h2 h3
 ·exact⟨hg.os.trans h.low.os,hg.tape.trans h.low.tape,hg.output.trans h.low.output,Nat.le_trans h.low.size hg.size,
   fun q hq=>(hg.block q (Nat.lt_of_lt_of_le hq h.low.size) (fun e=>by have:=(hob.lt q e.symm).1;have:=ok.sz;omega)).trans (h.low.block q hq)⟩
theorem Adz (k:Mc.K) (S:Mc.S) (v:Mc.V) (w:World) (ok:k.Ok) (h:Mc.At k S v w) (hol:S.out.length≤100000) :
  Calls Tryz.prog 197 #[.pointer (some ⟨k.B,0,none⟩)] w fun e w'=>e=.returned (.tuple #[])∧∃ v',Mc.At k (Mc.outp S) v' w':=by
 have hP:=D6 k S v w ok h;obtain⟨i0,hi,hz0,hz1,hz2⟩:=info_parts Tryz.infoInt;have e:Mc.outp S=⟨S.popped.read,S.popped.objs,S.popped.now,S.popped.wait,S.popped.ended,S.out++[S.top],S.popped.status,S.popped.value,S.popped.steps⟩:=rfl;rw[e];generalize S.top=x at *;clear h e;go_enter Tryz.func197,Tryz.ntmps197;go_wp2_with fail
 refine hP.mono ?_;rintro e w1 ⟨rfl,h1⟩;have c34:w1.cell? ⟨k.B,34,none⟩=some (.slice v.xa S.out.length v.xc):=h1.sees.c34;have f34:=h1.sees.fr 34;have hbl:=h1.rows.szs;have hob1:w1.ownsRow k.w0.heap.size 3 1 (.slice v.xa S.out.length v.xc) S.out.length (S.out.map (Value.int .i64)):=h1.rows.out;have H1:=Ac h1;clear h1 hP;go_wp2_with (at_builtin;refine wpList_append_own_at _ rfl _ _ 26 rfl k.w0.heap.size 3 i0 _ 1 8 Tryz.underlying26 hi hz0 hz1 hz2 rfl (by decide) _ _ _ rfl (hob1.alloc _) ⟨w1.heap.size,0,none⟩ 1 1 [.int .i64 x] rfl rfl ?c1 ?c2 ?c3 ?c4 ?c5 ?_)
 case c1=>exact Ay _ _ _ _ rfl
 case c2=>intro u hu;simp at hu;subst hu;rfl
 case c3=>unfold maxLen;omega
 case c4=>omega
 case c5=>simp;omega
 intro v' w2 hown2 hgrow _ hat;obtain⟨xa,xc,rfl⟩:=Ah hown2;have h2:=(Aa H1).gr ok (QN (O4 x));have hat':(Value.slice xa (S.out.length+1) xc).ownBlock=(Value.slice v.xa S.out.length v.xc).ownBlock∨(Value.slice xa (S.out.length+1) xc).ownBlock=some (w1.alloc (O4 x)).heap.size:=by simpa using hat
 obtain⟨hR,hBB⟩:=h2.rows.addX ok h2.blk hown2 hgrow hat';have hM:Mid w2 k.B 156 (Mc.pre k S.popped.read S.popped.objs.length v) S.popped.now.cells (Mc.post v S.popped.wait.length S.popped.out.length S.popped.ended S.popped.status S.popped.value S.popped.steps):=hBB.trans h2.blk;have hl32:(Mc.pre k S.popped.read S.popped.objs.length v++S.popped.now.cells).length=32:=by rw[List.length_append,Bp,h2.wf.len]
 have hM0:=hM.tail.cell (j:=2) hl32 (by rw[Db];omega);have hM1:=hM.free 34;have e34:(Mc.post v S.popped.wait.length S.popped.out.length S.popped.ended S.popped.status S.popped.value S.popped.steps)[2]?=some (.slice v.xa S.out.length v.xc):=rfl;rw[e34]at hM0;simp only[Nat.reduceAdd]at hM0;have HM:=Ac hM;have HR:=Ac hR;have HW:=Ac h2.wf;clear hM hR h2 H1 hown2 hgrow hat hat' hBB hob1 e34 hl32;go_wp2
 go_end0
 refine⟨rfl,⟨v.oa,v.oc,v.wa,v.wc,xa,xc,v.ov⟩,?_⟩;exact Gq (j:=2) (Aa HM) (Bp _ _ _ _) (Db _ _ _ _ _ _ _) (Aa HW) ok (by omega) _ rfl rfl (by simp[Mc.post,Mc.S.popped,Mc.S.withNow]) (Aa HR)
theorem Aes (k:Mc.K) (S:Mc.S) (v:Mc.V) (w:World) (ok:k.Ok) (h:Mc.At k S v w) (hrl:S.read≤100000) :
  Calls Tryz.prog 196 #[.pointer (some ⟨k.B,0,none⟩)] w fun e w'=>e=.returned (.tuple #[])∧Mc.At k (Mc.inp k.E S) v w':=by
 have c9:=h.sees.c9;have c5:=h.sees.c5;have f9:=h.sees.fr 9;have hil:=ok.il;have hins:=h.rows.ints ok;unfold Mc.inp;have eI:k.E.ins=k.ins:=rfl;rw[eI];have d0:decide ((0:Int)≤(S.read:Int))=true:=by simp
 by_cases hr:S.read<k.ins.length
 ·rw[if_pos hr];obtain⟨g,o,hg,hglt,hc⟩:=hins S.read hr;have d1:decide ((S.read:Int)<(k.ins.length:Int))=true:=by simpa using hr
  have d2:decide (S.read<k.ins.length)=true:=by simpa using hr
  have hr':(S.read:Int)<(k.ins.length:Int):=by omega
  rw[hg]at c5;generalize k.ins.getD S.read 0=x at *;have h1:∀ n,Mc.At k ⟨S.read+1,S.objs,S.now,S.wait,S.ended,S.out,S.status,S.value,S.steps⟩ v ((w.drewN n).setCell ⟨k.B,9,none⟩ (.int .i64 ((S.read:Int)+1))):=fun n=>(h.drewN ok n).setPre ok (j:=9) (by omega) _ rfl rfl rfl (h.drewN ok n).rows;have hP:∀ n,_:=fun n=>Dx k _ v x _ ok (h1 n);have HP:=Ac hP;clear h hins eI h1 hP;go_enter Tryz.func196,Tryz.ntmps196;go_wp2
  go_quiet (fail)
  go_wp2
  go_quiet (fail)
  go_wp2_with fail
  refine(Aa HP _).mono ?_;rintro e w1 ⟨rfl,h2⟩;go_wp2
  go_end0
  exact⟨rfl,h2⟩
 ·rw[if_neg hr];have d1:decide ((S.read:Int)<(k.ins.length:Int))=false:=by simpa using hr
  have d2:decide (S.read<k.ins.length)=false:=by simpa using hr
  have hr':¬ (S.read:Int)<(k.ins.length:Int):=by omega
  have hP:∀ n1,_:=fun n1=>Dx k _ v 0 _ ok (h.drewN ok n1);have HP:=Ac hP;clear h hins eI hP;go_enter Tryz.func196,Tryz.ntmps196;go_wp2
  go_quiet (fail)
  go_wp2_with fail
  refine(Aa HP _).mono ?_;rintro e w1 ⟨rfl,h2⟩;go_wp2
  go_end0
  exact⟨rfl,h2⟩
theorem Uv (k:Mc.K) (S:Mc.S) (v:Mc.V) (op:Int) (w:World) (ok:k.Ok) (h:Mc.At k S v w) :
  Calls Tryz.prog 189 #[.pointer (some ⟨k.B,0,none⟩),.int .i64 op] w fun e w'=>e=.returned (.tuple #[])∧∃ v',Mc.At k (Mc.reckon k.E op S) v' w':=by
 have hP:=D6 k S v w ok h;have hQ:=fun w h=>D6 k S.popped v w ok h;have hR:=fun w=>Qp op S.popped.top S.top w;have hU:=fun x w h=>Dx k S.popped.popped v x w ok h;have hT:=fun w h=>Bm k S.popped.popped v 2 w ok h (by omega) (by omega);unfold Mc.reckon;generalize S.popped.top=x at *;generalize S.top=y at *;clear h;cases hr:Mc.reckoned op x y with
 | none =>
  rw[hr]at hR;simp only[Option.getD_none,Option.isSome_none]at hR;clear hr;go_enter Tryz.func189,Tryz.ntmps189;go_wp2_with fail
  refine hP.mono ?_;rintro e w1 ⟨rfl,h1⟩;go_wp2_with fail
  refine(hQ _ h1).mono ?_;rintro e w2 ⟨rfl,h2⟩;go_wp2_with fail
  refine(hR _).mono ?_;rintro e w3 ⟨rfl,rfl⟩;go_wp2_with fail
  refine(hT _ h2).mono ?_;rintro e w4 ⟨rfl,v',h4⟩;go_wp2;refine bodyPost_ret (v:=.tuple #[]) (by simp[results,Tryz.results189,go_sem]) rfl ?_;exact⟨rfl,v',h4⟩
 | some z =>
  rw[hr]at hR;simp only[Option.getD_some,Option.isSome_some]at hR;clear hr;go_enter Tryz.func189,Tryz.ntmps189;go_wp2_with fail
  refine hP.mono ?_;rintro e w1 ⟨rfl,h1⟩;go_wp2_with fail
  refine(hQ _ h1).mono ?_;rintro e w2 ⟨rfl,h2⟩;go_wp2_with fail
  refine(hR _).mono ?_;rintro e w3 ⟨rfl,rfl⟩;go_wp2_with fail
  refine(hU z _ h2).mono ?_;rintro e w4 ⟨rfl,h4⟩;go_wp2
  go_end0
  exact⟨rfl,v,h4⟩
theorem Mo (k:Mc.K) (S:Mc.S) (v:Mc.V) (w:World) (ok:k.Ok) (h:Mc.At k S v w) :
  Calls Tryz.prog 195 #[.pointer (some ⟨k.B,0,none⟩)] w fun e w'=>e=.returned (.tuple #[])∧∃ v',Mc.At k (Mc.throwTaken k.E S) v' w':=by
 have hP:=D6 k S v w ok h;have hT:=fun w h=>Bm k S.popped v 3 w ok h (by omega) (by omega);have hU:=fun w h=>Mw k S.popped v S.top w ok h;unfold Mc.throwTaken;generalize S.top=x at *;clear h;by_cases hx:x=0
 ·rw[if_pos hx];subst hx;go_enter Tryz.func195,Tryz.ntmps195;go_wp2_with fail
  refine hP.mono ?_;rintro e w1 ⟨rfl,h1⟩;go_wp2_with fail
  refine(hT _ h1).mono ?_;rintro e w4 ⟨rfl,v',h4⟩;go_wp2;refine bodyPost_ret (v:=.tuple #[]) (by simp[results,Tryz.results195,go_sem]) rfl ?_;exact⟨rfl,v',h4⟩
 ·rw[if_neg hx];have hx':(x==0)=false:=by simp[hx]
  clear hx;go_enter Tryz.func195,Tryz.ntmps195;go_wp2_with fail
  refine hP.mono ?_;rintro e w1 ⟨rfl,h1⟩;go_wp2_with fail
  refine(hU _ h1).mono ?_;rintro e w4 ⟨rfl,v',h4⟩;go_wp2
  go_end0
  exact⟨rfl,v',h4⟩
theorem Tu (k:Mc.K) (S:Mc.S) (v:Mc.V) (cl:Int) (w:World) (ok:k.Ok) (h:Mc.At k S v w) (hol:S.objs.length≤1000) :
  Calls Tryz.prog 243 #[.pointer (some ⟨k.B,0,none⟩),.int .i64 cl] w fun e w'=>e=.returned (.tuple #[])∧∃ v',Mc.At k (Mc.create k.E cl S) v' w':=by
 unfold Mc.create;have eR:k.E.room=k.room:=rfl;rw[eR];clear eR;by_cases hr:k.room≤(S.objs.length:Int)-5
 ·rw[if_pos hr];have hA:=Rz k S v cl w ok h hol hr;have hT:=fun w h=>Bm k S v 5 w ok h (by omega) (by omega);clear h hr;go_enter Tryz.func243,Tryz.ntmps243;go_wp2_with fail
  refine hA.mono ?_;rintro e w1 ⟨rfl,h1⟩;go_wp2_with fail
  refine(hT _ h1).mono ?_;rintro e w4 ⟨rfl,v',h4⟩;go_wp2;refine bodyPost_ret (v:=.tuple #[]) (by simp[results,Tryz.results243,go_sem]) rfl ?_;exact⟨rfl,v',h4⟩
 ·rw[if_neg hr];have hA:=Adm k S v cl w ok h hol hr;have hT:=fun v w h=>Dx k (S.withObjs (S.objs++[(cl,[])])) v ((S.objs.length:Int)+1) w ok h;clear h hr;go_enter Tryz.func243,Tryz.ntmps243;go_wp2_with fail
  refine hA.mono ?_;rintro e w1 ⟨rfl,v1,h1⟩;go_wp2_with fail
  refine(hT v1 _ h1).mono ?_;rintro e w4 ⟨rfl,h4⟩;go_wp2
  go_end0
  exact⟨rfl,v1,h4⟩
theorem TyR.at2 {w w':World}{v:Value}{l:List (Int × Int)} (h:TyR w v l) (hk:∀ j,v.ownBlock=some j→w'.heap[j]?=w.heap[j]?):TyR w' v l:=by
 rcases h with h|⟨g,o,c,cur,hv,hg,h1,h2,h3⟩
 ·exact .inl h
 ·have e:=hk g (by rw[hv];rfl);exact .inr ⟨g,o,c,cur,hv,e.trans hg,h1,h2,fun j x hx=>by rw[World.cell?_of_block (a:=⟨g,o+j,none⟩) e];exact h3 j x hx⟩
theorem TyR.blk_lt {w:World}{v:Value}{l:List (Int × Int)} (h:TyR w v l) {j:Nat} (hj:v.ownBlock=some j):j<w.heap.size:=by
 rcases h with ⟨rfl,_⟩|⟨g,o,c,cur,hv,hg,_⟩
 ·simp[Value.ownBlock]at hj
 ·rw[hv]at hj;simp only[Value.ownBlock,Option.some.injEq]at hj;rw[← hj];exact lt_of_block hg
theorem Mc.Rows.fldsIn {k:Mc.K}{objs:List (Int × List Int)}{wait:List Mc.Call}{out:List Int}{v:Mc.V}{w:World} (h:Mc.Rows k objs wait out v w) (ok:k.Ok):FldsIn w k.bf (.slice k.ya k.lf.length k.yc) k.lf:=by
 obtain⟨a,b⟩:=ok.fl;refine⟨Bk a (fun j hj=>h.keep j (a.lt j hj).2 (ok.fB j hj).1 (ok.fB j hj).2),fun p hp=>(b p hp).at2 (fun j hj=>?_)⟩;obtain⟨x,y⟩:=ok.fy p hp j hj;exact h.keep j ((b p hp).blk_lt hj) x y
theorem Sg (n:Int):∀ (fs:List (List (Int × Int))) (c f:Int),(∀ l∈fs,l.length≤10)→0≤c→(Ah0 n fs c f).1≤c+fs.length∧-1≤(Ah0 n fs c f).1∧0≤(Ah0 n fs c f).2∧(Ah0 n fs c f).2≤10
 | [],c,f,_,hc=>by simp[Ah0];omega
 | l::r,c,f,h,hc=>by
  unfold Ah0;have hl:=h l (by simp)
  split
  ·rename_i hh;obtain⟨h1,h2⟩:=hh;simp only[List.length_cons];omega
  ·have:=Sg n r (c+1) (f+(l.length:Int)) (fun x hx=>h x (by simp[hx])) (by omega);simp only[List.length_cons];omega
theorem Ot (T:List Int) (tg tc:Nat) (l:List (Value × List (Int × Int))) (bb:Nat) (ya:Option Addr) (yc:Nat) (n:Int) (w:World) (hl:l.length≤14) (hTl:T.length≤1000) (hn:0≤n∧n≤100000) (hf:∀ p∈l,p.2.length≤10) (hT:TreeIn w tg T) (hF:FldsIn w bb (.slice ya l.length yc) l) :
  Calls Tryz.prog 281 #[.agg #[.slice (some ⟨tg,0,none⟩) T.length tc,.slice ya l.length yc],.int .i64 n] w fun e w'=>e=.returned (.int .i64 (Mc.slot T (l.map Prod.snd) n))∧Below w.heap.size w w':=by
 have hO:=fun w' (h:Below w.heap.size w w')=>Pg (aa:=some ⟨tg,0,none⟩) (an:=T.length) (ac:=tc) l bb ya yc n w' (by omega) hn (fun p hp=>by have:=hf p hp;omega) (hF.below h);have hW:=fun c w' (h:Below w.heap.size w w')=>Vz (aa:=some ⟨tg,0,none⟩) (an:=T.length) (ac:=tc) l bb ya yc c w' (by omega) (hF.below h);have hA:=fun c w' (h:Below w.heap.size w w')=>Hc T tg tc l bb ya yc c w' hl hTl (fun p hp=>by have:=hf p hp;omega) (hT.below h) (hF.below h);have hob:=Sg n (l.map Prod.snd) 0 0 (fun x hx=>by obtain⟨p,hp,rfl⟩:=List.mem_map.1 hx;exact hf p hp) (by omega);have hal:∀ c,(Aht T (l.map Prod.snd) c).length≤1000*14:=fun c=>by
  have:=Dq T (l.map Prod.snd) c (fun p hp=>by obtain⟨q,hq,rfl⟩:=List.mem_map.1 hp;have:=hf q hq;omega) (l.map Prod.snd).length;unfold Aht;rw[List.length_map]at this ⊢;omega
 have hwl:∀ c,(Akq (l.map Prod.snd) c).length≤10:=fun c=>by
  unfold Akq
  split
  ·simp
  ·rw[List.getD_eq_getElem?_getD];cases hg:(l.map Prod.snd)[c.toNat]? with
   | none=>simp
   | some x =>
    obtain⟨p,hp,rfl⟩:=List.mem_map.1 (List.mem_of_getElem? hg);exact hf p hp
 unfold Mc.slot;generalize Ah0 n (l.map Prod.snd) 0 0=oo at *;obtain⟨oc,oi⟩:=oo;simp only at hO hob ⊢;obtain⟨-,b1,b2,b3⟩:=hob;have hB0:Below w.heap.size w (w.alloc (O2 (some ⟨tg,0,none⟩) T.length tc ya l.length yc)):=QN _;have hC0:=Ae w (O2 (some ⟨tg,0,none⟩) T.length tc ya l.length yc);by_cases h1:oc = -1
 ·rw[if_pos h1];subst h1;clear hW hA hal hwl;go_enter Tryz.func281,Tryz.ntmps281;go_wp2_with fail
  refine(hO _ hB0).mono ?_;rintro e w1 ⟨rfl,hb1⟩;have hB1:=QB hB0 hb1;go_wp2;go_ret;exact⟨rfl,hB1⟩
 ·rw[if_neg h1];have h1':(oc == -1)=false:=by simp[h1]
  have ha2:=hal oc;have hw2:=hwl oc;have hA2:=hA oc;have hW2:=hW oc;clear h1 hal hwl hA hW;generalize Aht T (l.map Prod.snd) oc=FA at *;generalize Akq (l.map Prod.snd) oc=FO at *;go_enter Tryz.func281,Tryz.ntmps281;go_wp2_with fail
  refine(hO _ hB0).mono ?_;rintro e w1 ⟨rfl,hb1⟩;have hB1:=QB hB0 hb1;have C1:=stay hb1 hC0;obtain⟨t0,t1⟩:=cl2 C1;simp at t0 t1;go_wp2_with fail
  refine(hA2 _ hB1).mono ?_;rintro e w2 ⟨xa,xc,rfl,-,hb2⟩;have hB2:=QB hB1 hb2;have C2:=stay hb2 C1;obtain⟨u0,u1⟩:=cl2 C2;simp at u0 u1;go_wp2_with fail
  refine(hW2 _ hB2).mono ?_;rintro e w3 ⟨za,zc,rfl,-,hb3⟩;have hB3:=QB hB2 hb3;go_wp2;go_ret;exact⟨rfl,hB3⟩
theorem Yw (k:Mc.K) (S:Mc.S) (v:Mc.V) (cl:Int) (w:World) (ok:k.Ok) (h:Mc.At k S v w) :
  Calls Tryz.prog 247 #[.pointer (some ⟨k.B,0,none⟩),.int .i64 cl] w fun e w'=>e=.returned (.tuple #[])∧∃ v',Mc.At k (Mc.cast k.E cl S) v' w':=by
 have hP:=D6 k S v w ok h;have hC:=fun w h=>Ho k S.popped v S.top w h;have hU:=fun w h=>Dx k S.popped v S.top w ok h;have hT:=fun w h=>Bm k S.popped v 4 w ok h (by omega) (by omega);have hTl:=ok.tl;unfold Mc.cast;have eT:k.E.T=k.T:=rfl;have eO:S.popped.objs=S.objs:=rfl;rw[eT];rw[eO]at hC;generalize S.top=x at *;generalize Mc.classOf x S.objs=c at *;have hWi:=fun w hT=>Dk (ya:=k.ya) (yn:=k.lf.length) (yc:=k.yc) k.T k.tg k.tc c cl w hTl hT;clear h eT eO;by_cases hx:x=0
 ·rw[if_pos hx];subst hx;clear hWi hT;go_enter Tryz.func247,Tryz.ntmps247;go_wp2_with fail
  refine hP.mono ?_;rintro e w1 ⟨rfl,h1⟩;go_wp2_with fail
  refine(hC _ h1).mono ?_;rintro e w2 ⟨rfl,rfl⟩;go_wp2_with fail
  refine(hU _ h1).mono ?_;rintro e w3 ⟨rfl,h3⟩;go_wp2
  go_end0
  exact⟨rfl,v,h3⟩
 ·rw[if_neg hx];have hx':(x != 0)=true:=by simp[hx]
  clear hx;generalize Tr.within k.T c cl=b at *;cases b with
  | true =>
   rw[if_pos rfl];clear hT;go_enter Tryz.func247,Tryz.ntmps247;go_wp2_with fail
   refine hP.mono ?_;rintro e w1 ⟨rfl,h1⟩;go_wp2_with fail
   refine(hC _ h1).mono ?_;rintro e w2 ⟨rfl,rfl⟩;have c2:=h1.sees.c2;have c3:=h1.sees.c3;go_wp2_with fail
   refine(hWi _ (h1.rows.tree ok)).mono ?_;rintro e w3 ⟨rfl,hb3⟩;go_wp2_with fail
   refine(hU _ (h1.gr ok hb3)).mono ?_;rintro e w4 ⟨rfl,h4⟩;go_wp2
   go_end0
   exact⟨rfl,v,h4⟩
  | false =>
   rw[if_neg (by simp)];clear hU;go_enter Tryz.func247,Tryz.ntmps247;go_wp2_with fail
   refine hP.mono ?_;rintro e w1 ⟨rfl,h1⟩;go_wp2_with fail
   refine(hC _ h1).mono ?_;rintro e w2 ⟨rfl,rfl⟩;have c2:=h1.sees.c2;have c3:=h1.sees.c3;go_wp2_with fail
   refine(hWi _ (h1.rows.tree ok)).mono ?_;rintro e w3 ⟨rfl,hb3⟩;go_wp2_with fail
   refine(hT _ (h1.gr ok hb3)).mono ?_;rintro e w4 ⟨rfl,v',h4⟩;go_wp2;refine bodyPost_ret (v:=.tuple #[]) (by simp[results,Tryz.results247,go_sem]) rfl ?_;exact⟨rfl,v',h4⟩
theorem Qf (k:Mc.K) (S:Mc.S) (v:Mc.V) (n:Int) (w:World) (ok:k.Ok) (h:Mc.At k S v w) (hn:0≤n∧n≤100000) :
  Calls Tryz.prog 245 #[.pointer (some ⟨k.B,0,none⟩),.int .i64 n] w fun e w'=>e=.returned (.tuple #[])∧∃ v',Mc.At k (Mc.getField k.E n S) v' w':=by
 have hP:=D6 k S v w ok h;have hT:=fun w h=>Bm k S.popped v 3 w ok h (by omega) (by omega);have hSl:=fun w hT hF=>Ot k.T k.tg k.tc k.lf k.bf k.ya k.yc n w ok.f14 ok.tl hn ok.ff hT hF;have hG:=fun s w h=>Acj k S.popped v S.top s w h;have hU:=fun x w h=>Dx k S.popped v x w ok h;unfold Mc.getField;have eE:Mc.slot k.E.T k.E.FL n=Mc.slot k.T (k.lf.map Prod.snd) n:=rfl;have eO:S.popped.objs=S.objs:=rfl;rw[eE];rw[eO]at hG;generalize S.top=x at *;generalize Mc.slot k.T (k.lf.map Prod.snd) n=sl at *;clear h eE eO;by_cases hx:x=0
 ·rw[if_pos hx];subst hx;clear hSl hG hU;go_enter Tryz.func245,Tryz.ntmps245;go_wp2_with fail
  refine hP.mono ?_;rintro e w1 ⟨rfl,h1⟩;go_wp2_with fail
  refine(hT _ h1).mono ?_;rintro e w4 ⟨rfl,v',h4⟩;go_wp2;refine bodyPost_ret (v:=.tuple #[]) (by simp[results,Tryz.results245,go_sem]) rfl ?_;exact⟨rfl,v',h4⟩
 ·rw[if_neg hx];have hx':(x==0)=false:=by simp[hx]
  clear hx hT;have hG2:=hG sl;clear hG;generalize Mc.getF x sl S.objs=y at *;go_enter Tryz.func245,Tryz.ntmps245;go_wp2_with fail
  refine hP.mono ?_;rintro e w1 ⟨rfl,h1⟩;have c2:=h1.sees.c2;have c3:=h1.sees.c3;go_wp2_with fail
  refine(hSl _ (h1.rows.tree ok) (h1.rows.fldsIn ok)).mono ?_;rintro e w2 ⟨rfl,hb2⟩;go_wp2_with fail
  refine(hG2 _ (h1.gr ok hb2)).mono ?_;rintro e w3 ⟨rfl,rfl⟩;go_wp2_with fail
  refine(hU _ _ (h1.gr ok hb2)).mono ?_;rintro e w4 ⟨rfl,h4⟩;go_wp2
  go_end0
  exact⟨rfl,v,h4⟩
theorem Qm (k:Mc.K) (S:Mc.S) (v:Mc.V) (n:Int) (w:World) (ok:k.Ok) (h:Mc.At k S v w) (hn:0≤n∧n≤100000) :
  Calls Tryz.prog 246 #[.pointer (some ⟨k.B,0,none⟩),.int .i64 n] w fun e w'=>e=.returned (.tuple #[])∧∃ v',Mc.At k (Mc.putField k.E n S) v' w':=by
 have hP:=D6 k S v w ok h;have hQ:=fun w h=>D6 k S.popped v w ok h;have hT:=fun w h=>Bm k S.popped.popped v 3 w ok h (by omega) (by omega);have hSl:=fun w hT hF=>Ot k.T k.tg k.tc k.lf k.bf k.ya k.yc n w ok.f14 ok.tl hn ok.ff hT hF;have hG:=fun s w h=>Ada k S.popped.popped v S.popped.top s S.top w ok h;unfold Mc.putField;have eE:Mc.slot k.E.T k.E.FL n=Mc.slot k.T (k.lf.map Prod.snd) n:=rfl;have eO:S.popped.popped.objs=S.objs:=rfl;rw[eE];rw[eO]at hG;generalize S.popped.top=x at *;generalize S.top=y at *;generalize Mc.slot k.T (k.lf.map Prod.snd) n=sl at *;clear h eE eO;by_cases hx:x=0
 ·rw[if_pos hx];subst hx;clear hSl hG;go_enter Tryz.func246,Tryz.ntmps246;go_wp2_with fail
  refine hP.mono ?_;rintro e w1 ⟨rfl,h1⟩;go_wp2_with fail
  refine(hQ _ h1).mono ?_;rintro e w2 ⟨rfl,h2⟩;go_wp2_with fail
  refine(hT _ h2).mono ?_;rintro e w4 ⟨rfl,v',h4⟩;go_wp2;refine bodyPost_ret (v:=.tuple #[]) (by simp[results,Tryz.results246,go_sem]) rfl ?_;exact⟨rfl,v',h4⟩
 ·rw[if_neg hx];have hx':(x==0)=false:=by simp[hx]
  clear hx hT;have hG2:=hG sl;clear hG;go_enter Tryz.func246,Tryz.ntmps246;go_wp2_with fail
  refine hP.mono ?_;rintro e w1 ⟨rfl,h1⟩;go_wp2_with fail
  refine(hQ _ h1).mono ?_;rintro e w2 ⟨rfl,h2⟩;have c2:=h2.sees.c2;have c3:=h2.sees.c3;go_wp2_with fail
  refine(hSl _ (h2.rows.tree ok) (h2.rows.fldsIn ok)).mono ?_;rintro e w3 ⟨rfl,hb3⟩;go_wp2_with fail
  refine(hG2 _ (h2.gr ok hb3)).mono ?_;rintro e w4 ⟨rfl,h4⟩;go_wp2
  go_end0
  exact⟨rfl,v,h4⟩
end Go.Proofs.YtpcgnjolfahacaaGreat
