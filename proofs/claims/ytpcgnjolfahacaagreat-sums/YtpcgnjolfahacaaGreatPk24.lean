/- a part of the proofs -/
import Derived.Deep.Cut
import Derived.BigQuiet
import Derived.Deep.Slices
import Derived.Deep.Strs
import Derived.WalkKit
import Derived.ProofKit
import Derived.OpenShut
import Derived.ShutString
import Derived.ChangeOld
import Derived.ChangeSlices
import Derived.Below
import Derived.Lib.SmallJoins
import Derived.Test.YtpcgnjolfahacaaGreatPk23
set_option maxRecDepth 100000
set_option maxHeartbeats 40000000
set_option linter.unusedVariables false
set_option linter.unusedSimpArgs false
namespace Go.Proofs.YtpcgnjolfahacaaGreat
open Go.RowKit
def Mc.Left (E:Mc.E) (f:Nat) (S R:Mc.S):Prop:=(S.ended=true→S=R)∧(S.ended=false→S.steps≤f∧Mc.Bd E S∧S.out.length≤S.steps∧Mc.close (Mc.it E (f-S.steps) S)=R)
theorem Abh {E:Mc.E}{f:Nat}{S R:Mc.S} (h:Mc.Left E f S R) (he:S.ended=false) (hf:f≤S.steps):S.fin 1 0=R:=by
 obtain⟨h1,h2,h3,h4⟩:=h.2 he;rw[show f-S.steps=0 by omega]at h4;unfold Mc.close Mc.it at h4;rw[if_neg (by rw[he];simp)]at h4;exact h4
theorem Yp {E:Mc.E} (hE:E.Small) {f:Nat}{S R:Mc.S} (h:Mc.Left E f S R) (he:S.ended=false) (hf:¬ f≤S.steps):Mc.Left E f (Mc.step E S) R:=by
 obtain⟨h1,h2,h3,h4⟩:=h.2 he;obtain⟨s1,s2,s3⟩:=Jj E S;rw[show f-S.steps=(f-(Mc.step E S).steps)+1 by omega,Mc.it,if_neg (by rw[he];simp)]at h4;refine⟨fun e=>?_,fun e=>⟨by omega,Ac8 hE h2,?_,h4⟩⟩
 ·rw[Xj E _ e]at h4;unfold Mc.close at h4;rw[if_pos e]at h4;exact h4
 ·rcases s2 with e|⟨x,e⟩
  ·rw[e];omega
  ·rw[e];simp;omega
theorem Mc.K.Ok.hb {k:Mc.K} (ok:k.Ok) (n:Int):∀ x∈(k.E.meth n).handlers,0≤x.target∧x.target≤1000:=by
 unfold Mc.E.meth
 split
 ·simp[Mc.noMeth]
 ·split
  ·simp[Mc.noMeth]
  ·rename_i h0 h1;have hl:k.E.ms.length=k.lms.length:=by simp[Mc.K.E]
   have hi:n.toNat<k.lms.length:=by omega
   have e:k.E.ms.getD n.toNat Mc.noMeth=k.lms[n.toNat].1:=by
    rw[List.getD_eq_getElem?_getD];simp[Mc.K.E,hi]
   rw[e];exact(ok.hn _ (List.getElem_mem hi)).2
def Mc.mr (k:Mc.K) (f:Nat) (w:World):Nat:=match w.cell? ⟨k.B,33,none⟩ with
 | some (.bool true)=>0
 | _=>match w.cell? ⟨k.B,37,none⟩ with
  | some (.int _ n)=>f-n.toNat+1
  | _=>0
theorem Mc.At.mr {k:Mc.K}{S:Mc.S}{v:Mc.V}{w:World} (h:Mc.At k S v w) (f:Nat):Mc.mr k f w=if S.ended=true then 0 else f-S.steps+1:=by
 unfold Mc.mr;rw[h.sees.c33,h.sees.c37];cases S.ended<;>simp
theorem Abq (p:Mc.Par) (bc bm:Nat) (w:World) (hg:p.Good w bc bm) (R:Mc.S) (hR:Mc.run p.E p.fuel.toNat p.entry=R) :
  Calls Tryz.prog 55 #[.agg #[.slice p.fa p.fn p.fc,.slice p.ma p.lms.length p.mc],.agg #[.int .i64 p.entry,.slice p.ia p.ins.length p.ic,.int .i64 p.room,.int .i64 p.depth,.int .i64 p.fuel]] w fun e w' =>
   ∃ xa xc,e=.returned (.agg #[.slice xa R.out.length xc,.int .i64 R.status,.int .i64 R.value,.int .i64 (R.steps:Int)])∧IntsAt w' w.heap.size (.slice xa R.out.length xc) R.out∧Below w.heap.size w w':=by
 have hwd:Below w.heap.size w (((w.alloc (O1 p.fa p.fn p.fc p.ma p.lms.length p.mc)).alloc (O26 p.entry p.ia p.ins.length p.ic p.room p.depth p.fuel)).alloc (O27 none 0 0 0 0 0)):=(((QN _).alloc (by simp) _).alloc (by simp;omega) _);have CF:(((w.alloc (O1 p.fa p.fn p.fc p.ma p.lms.length p.mc)).alloc (O26 p.entry p.ia p.ins.length p.ic p.room p.depth p.fuel)).alloc (O27 none 0 0 0 0 0)).heap[w.heap.size]?=some (O1 p.fa p.fn p.fc p.ma p.lms.length p.mc):=Af (Ak w _ _) _;have CS:(((w.alloc (O1 p.fa p.fn p.fc p.ma p.lms.length p.mc)).alloc (O26 p.entry p.ia p.ins.length p.ic p.room p.depth p.fuel)).alloc (O27 none 0 0 0 0 0)).heap[w.heap.size+1]?=some (O26 p.entry p.ia p.ins.length p.ic p.room p.depth p.fuel):=Af (Ah w _ _) _;have CR:(((w.alloc (O1 p.fa p.fn p.fc p.ma p.lms.length p.mc)).alloc (O26 p.entry p.ia p.ins.length p.ic p.room p.depth p.fuel)).alloc (O27 none 0 0 0 0 0)).heap[w.heap.size+2]?=some (O27 none 0 0 0 0 0):=by
  have:=Ad ((w.alloc (O1 p.fa p.fn p.fc p.ma p.lms.length p.mc)).alloc (O26 p.entry p.ia p.ins.length p.ic p.room p.depth p.fuel)) (O27 none 0 0 0 0 0)
  simpa using this
 have hTO:=fun W (hb:Below w.heap.size w W)=>Ev p.fa p.ma p.fn p.fc p.lms.length p.mc bc p.lcs W hg.c6 (hg.cs.kp (Kp.of_below (e:=none) hb) (by decide) (by decide));have HG:=Ac hg;have HRR:=Ac hR;have hNC:(Mc.newCall p.entry []).cells.length=20:=(Gj p.entry []).len;have hC0:=fun W=>Kh p.entry none 0 [] 0 W (by simp) (World.ownsRow_nil W 0 3 1);have hH0:=fun W=>Tb p.room W;have HT:Hid (∀ W,Below w.heap.size w W→Calls Tryz.prog 69 #[.agg #[.slice p.fa p.fn p.fc,.slice p.ma p.lms.length p.mc]] W fun e w'=>∃ g cap ya yn yc,e=.returned (.agg #[.slice (some ⟨g,0,none⟩) (Tr.tree (p.lcs.map Prod.fst)).length cap,.slice ya yn yc])∧TreeIn w' g (Tr.tree (p.lcs.map Prod.fst))∧w'.ownsRow W.heap.size 105 1 (.slice ya yn yc) (7+p.lcs.length) (Tr.fvals p.lcs)∧W.heap.size≤g∧Below W.heap.size W w'):=hTO;have HH:=Ac hH0;have HC:=Ac hC0;have h38:∀ tg tc ya yn yc oa oc,(Tryz.prog.info? 156).map (·.size)=some (p.cells tg tc ya yn yc oa oc (Mc.newCall p.entry []).cells).toArray.size:=fun tg tc ya yn yc oa oc=>by rw[Tryz.infoMach];simp[Mc.Par.cells,Mc.cells38,hNC]
 have one38:∀ tg tc ya yn yc oa oc,(p.cells tg tc ya yn yc oa oc (Mc.newCall p.entry []).cells).toArray.all (·.oneCell')=true:=fun tg tc ya yn yc oa oc=>all_oneCell_toArray (fun u hu=>by
  simp only[Mc.Par.cells,Mc.cells38,List.mem_append,List.mem_cons,List.not_mem_nil,or_false]at hu;rcases hu with (rfl | rfl | rfl | rfl | rfl | rfl | rfl | rfl | rfl | rfl | rfl | rfl) | hu | rfl | rfl | rfl | rfl | rfl | rfl
  all_goals first | rfl | exact Dt _ _ hu)
 clear hg hR hTO hC0 hH0;go_enter Tryz.func55,Tryz.ntmps55
 go_upto_region 1 with fail
 generalize hwdd:((w.alloc (O1 p.fa p.fn p.fc p.ma p.lms.length p.mc)).alloc (O26 p.entry p.ia p.ins.length p.ic p.room p.depth p.fuel)).alloc (O27 none 0 0 0 0 0)=wd at *;clear hwdd
 go_cut [5] from 17 (fun s5 wx=>∃ B,s5=.pointer (some ⟨B,0,none⟩)∧Mc.Built p w wx B)
 case first =>
  have f0:=(Ab CF 0).trans (show _=some (.slice p.fa p.fn p.fc) from rfl);have f1:=(Ab CF 1).trans (show _=some (.slice p.ma p.lms.length p.mc) from rfl);have s0:=(Ab CS 0).trans (show _=some (.int .i64 p.entry) from rfl);have s1:=(Ab CS 1).trans (show _=some (.slice p.ia p.ins.length p.ic) from rfl);have s2:=(Ab CS 2).trans (show _=some (.int .i64 p.room) from rfl);have s3:=(Ab CS 3).trans (show _=some (.int .i64 p.depth) from rfl);have s4:=(Ab CS 4).trans (show _=some (.int .i64 p.fuel) from rfl);have lF:=lt_of_block CF;have lS:=lt_of_block CS;have lR:=lt_of_block CR;have hw0:=hwd.size;have hB0:Below wd.heap.size wd wd.drew:=(Below.refl _ _).drew;go_wp2;refine wp_region_held_drew (S:=(fun w'=>w'.cell? ⟨w.heap.size,0,none⟩=some (.slice p.fa p.fn p.fc)∧w'.cell? ⟨w.heap.size,1,none⟩=some (.slice p.ma p.lms.length p.mc)∧w'.cell? ⟨w.heap.size+1,0,none⟩=some (.int .i64 p.entry)∧w'.cell? ⟨w.heap.size+1,1,none⟩=some (.slice p.ia p.ins.length p.ic)∧w'.cell? ⟨w.heap.size+1,2,none⟩=some (.int .i64 p.room)∧w'.cell? ⟨w.heap.size+1,3,none⟩=some (.int .i64 p.depth)∧w'.cell? ⟨w.heap.size+1,4,none⟩=some (.int .i64 p.fuel))) (by kernel_rfl) ⟨f0,f1,s0,s1,s2,s3,s4⟩ (fun hHeld=>?_);refine wpAnyH_take (i:=0) (oi:=⟨_,_,_,_,_,_⟩) (v:=.agg #[.slice p.fa p.fn p.fc,.slice p.ma p.lms.length p.mc]) rfl (by kernel_rfl) (by kernel_rfl) (by kernel_rfl) (fun _ _ _ h=>h) (Or.inl ⟨by rfl,?_⟩) hHeld ?_
  ·intro w' hSw
   try dsimp only at hSw
   go_simp
  try simp only[QX]
  refine wpAnyH_take (i:=1) (oi:=⟨_,_,_,_,_,_⟩) (v:=.agg #[.slice p.fa p.fn p.fc,.slice p.ma p.lms.length p.mc]) rfl (by kernel_rfl) (by kernel_rfl) (by kernel_rfl) (fun _ _ _ h=>h) (Or.inl ⟨by rfl,?_⟩) hHeld ?_
  ·intro w' hSw
   try dsimp only at hSw
   go_simp
  try simp only[QX]
  refine wpAnyH_take (i:=3) (oi:=⟨_,_,_,_,_,_⟩) (v:=.agg #[.int .i64 p.entry,.slice p.ia p.ins.length p.ic,.int .i64 p.room,.int .i64 p.depth,.int .i64 p.fuel]) rfl (by kernel_rfl) (by kernel_rfl) (by kernel_rfl) (fun _ _ _ h=>h) (Or.inl ⟨by rfl,?_⟩) hHeld ?_
  ·intro w' hSw
   try dsimp only at hSw
   go_simp
  try simp only[QX]
  refine wpAnyH_take (i:=4) (oi:=⟨_,_,_,_,_,_⟩) (v:=.pointer (some ⟨w.heap.size+1,2,none⟩)) rfl (by kernel_rfl) (by kernel_rfl) (by kernel_rfl) (fun _ _ _ h=>h) (Or.inl ⟨by rfl,?_⟩) hHeld ?_
  ·intro w' hSw
   try dsimp only at hSw
   go_simp
  try simp only[QX]
  refine wpAnyH_take (i:=5) (oi:=⟨_,_,_,_,_,_⟩) (v:=.int .i64 p.room) rfl (by kernel_rfl) (by kernel_rfl) (by kernel_rfl) (fun _ _ _ h=>h) (Or.inl ⟨by rfl,?_⟩) hHeld ?_
  ·intro w' hSw
   try dsimp only at hSw
   go_simp
  try simp only[QX]
  refine wpAnyH_take (i:=7) (oi:=⟨_,_,_,_,_,_⟩) (v:=.pointer (some ⟨w.heap.size+1,0,none⟩)) rfl (by kernel_rfl) (by kernel_rfl) (by kernel_rfl) (fun _ _ _ h=>h) (Or.inl ⟨by rfl,?_⟩) hHeld ?_
  ·intro w' hSw
   try dsimp only at hSw
   go_simp
  try simp only[QX]
  refine wpAnyH_take (i:=8) (oi:=⟨_,_,_,_,_,_⟩) (v:=.int .i64 p.entry) rfl (by kernel_rfl) (by kernel_rfl) (by kernel_rfl) (fun _ _ _ h=>h) (Or.inl ⟨by rfl,?_⟩) hHeld ?_
  ·intro w' hSw
   try dsimp only at hSw
   go_simp
  try simp only[QX]
  refine wpAnyH_ready (rs:=[2,11]) (by kernel_rfl) (by simp) ?_;refine AllReadyH.cons (o:=⟨_,_,_,_,_,_⟩) rfl (fun K hK=>?_) (AllReadyH.cons (o:=⟨_,_,_,_,_,_⟩) rfl (fun K hK=>?_) AllReadyH.nil)
  ·go_simp
   refine(Aa HT _ (hwd.trans (hB0.mono hw0))).mono ?_;rintro e u1 ⟨tg,tc,ya,yn,yc,rfl,hTr1,hYq,-,hb1⟩;have hYr1:=Av (base':=w.heap.size) hYq (Nat.le_trans hw0 hB0.size);clear hYq
   try dsimp only
   have hBx1:=QB hB0 hb1;clear hHeld;refine hK.out _ _ ⟨QC hBx1 lF f0,QC hBx1 lF f1,QC hBx1 lS s0,QC hBx1 lS s1,QC hBx1 lS s2,QC hBx1 lS s3,QC hBx1 lS s4⟩ (fun hHeld=>?_);clear hK K
   try simp only[QX]
   refine wpAnyH_ready (rs:=[6,11]) (by kernel_rfl) (by simp) ?_;refine AllReadyH.cons (o:=⟨_,_,_,_,_,_⟩) rfl (fun K hK=>?_) (AllReadyH.cons (o:=⟨_,_,_,_,_,_⟩) rfl (fun K hK=>?_) AllReadyH.nil)
   ·go_simp
    refine(Aa HH _).mono ?_;rintro e u2 ⟨oa,oc,rfl,hOq,hb2⟩;have hOb2:=Av (base':=w.heap.size) hOq (Nat.le_trans hw0 hBx1.size);clear hOq
    try dsimp only
    have hBx2:=QB hBx1 hb2;have hTr2:=hTr1.below hb2;have hYr2:=Am hYr1 (Kp.of_below (e:=none) hb2) (by decide);clear hHeld;refine hK.out _ _ ⟨QC hBx2 lF f0,QC hBx2 lF f1,QC hBx2 lS s0,QC hBx2 lS s1,QC hBx2 lS s2,QC hBx2 lS s3,QC hBx2 lS s4⟩ (fun hHeld=>?_);clear hK K
    try simp only[QX]
    refine wpAnyH_ready (rs:=[9,11]) (by kernel_rfl) (by simp) ?_;refine AllReadyH.cons (o:=⟨_,_,_,_,_,_⟩) rfl (fun K hK=>?_) (AllReadyH.cons (o:=⟨_,_,_,_,_,_⟩) rfl (fun K hK=>?_) AllReadyH.nil)
    ·go_simp
     refine(Aa HC _).mono ?_;rintro e u3 ⟨rfl,hb3⟩
     try dsimp only
     have hBx3:=QB hBx2 hb3;have hTr3:=hTr2.below hb3;have hYr3:=Am hYr2 (Kp.of_below (e:=none) hb3) (by decide);have hOb3:=Am hOb2 (Kp.of_below (e:=none) hb3) (by decide);clear hHeld;refine hK.out _ _ ⟨QC hBx3 lF f0,QC hBx3 lF f1,QC hBx3 lS s0,QC hBx3 lS s1,QC hBx3 lS s2,QC hBx3 lS s3,QC hBx3 lS s4⟩ (fun hHeld=>?_);clear hK K
     try simp only[QX]
     refine wpAnyH_take (i:=10) (oi:=⟨_,_,_,_,_,_⟩) (v:=.agg (p.cells tg tc ya yn yc oa oc (Mc.newCall p.entry []).cells).toArray) rfl (by kernel_rfl) (by kernel_rfl) (by kernel_rfl) (fun _ _ _ h=>h) (Eg (by rfl) _ _ _ _ _ (by rfl) _ _ _ _ _ _ _ _ _ _ _ (Mc.newCall p.entry []).cells hNC (by rfl) (by rfl) (by rfl) (by rfl) (by rfl)) hHeld ?_
     try simp only[QX]
     refine wpAnyH_ready (rs:=[11]) (by kernel_rfl) (by simp) ?_;refine AllReadyH.cons (o:=⟨_,_,_,_,_,_⟩) rfl (fun K hK=>?_) AllReadyH.nil;refine D9 (by rfl) (by rfl) ?_;have hba:Below u3.heap.size u3 (u3.alloc Mc.z38):=QN _;have hBx4:=QB hBx3 hba;have hZ4:=Ad u3 Mc.z38;have hlt4:w.heap.size+2<u3.heap.size:=Nat.lt_of_lt_of_le lR hBx3.size;have hTr4:=hTr3.below hba;have hYr4:=Am hYr3 (Kp.of_below (e:=none) hba) (by decide);have hOb4:=Am hOb3 (Kp.of_below (e:=none) hba) (by decide);clear hHeld;refine hK.out _ _ ⟨QC hBx4 lF f0,QC hBx4 lF f1,QC hBx4 lS s0,QC hBx4 lS s1,QC hBx4 lS s2,QC hBx4 lS s3,QC hBx4 lS s4⟩ (fun hHeld=>?_);clear hK K
     try simp only[QX]
     refine wpAnyH_ready (rs:=[12]) (by kernel_rfl) (by simp) ?_;refine AllReadyH.cons (o:=⟨_,_,_,_,_,_⟩) rfl (fun K hK=>?_) AllReadyH.nil;refine Ay (by rfl) 156 _ _ (by rfl) u3.heap.size (p.cells tg tc ya yn yc oa oc (Mc.newCall p.entry []).cells).toArray (by rfl) (by rfl) 156 _ hZ4 (h38 tg tc ya yn yc oa oc) (by simp[Mc.Par.cells,Mc.cells38,hNC];rfl) (one38 tg tc ya yn yc oa oc) ?_;have hFin:=It (tc:=tc) CS CR hwd hBx4 hZ4 hlt4 hTr4 hYr4 hOb4;clear hHeld;refine hK.out _ _ ⟨(World.cell?_of_block (a:=⟨w.heap.size,0,none⟩) (Aj (by have:=hlt4;show w.heap.size≠_;omega))).trans (QC hBx4 lF f0),(World.cell?_of_block (a:=⟨w.heap.size,1,none⟩) (Aj (by have:=hlt4;show w.heap.size≠_;omega))).trans (QC hBx4 lF f1),(World.cell?_of_block (a:=⟨w.heap.size+1,0,none⟩) (Aj (by have:=hlt4;show w.heap.size+1≠_;omega))).trans (QC hBx4 lS s0),(World.cell?_of_block (a:=⟨w.heap.size+1,1,none⟩) (Aj (by have:=hlt4;show w.heap.size+1≠_;omega))).trans (QC hBx4 lS s1),(World.cell?_of_block (a:=⟨w.heap.size+1,2,none⟩) (Aj (by have:=hlt4;show w.heap.size+1≠_;omega))).trans (QC hBx4 lS s2),(World.cell?_of_block (a:=⟨w.heap.size+1,3,none⟩) (Aj (by have:=hlt4;show w.heap.size+1≠_;omega))).trans (QC hBx4 lS s3),(World.cell?_of_block (a:=⟨w.heap.size+1,4,none⟩) (Aj (by have:=hlt4;show w.heap.size+1≠_;omega))).trans (QC hBx4 lS s4)⟩ (fun hHeld=>?_);clear hK K
     try simp only[Act.put]
     refine wpAnyH_done (by kernel_rfl) ?_ _;go_wp2
     go_meet
     case rel=>exact⟨_,rfl,hFin⟩
    ·refine D9 (by rfl) (by rfl) ?_;have hba:Below u2.heap.size u2 (u2.alloc Mc.z38):=QN _;have hBx3:=QB hBx2 hba;have hZ3:=Ad u2 Mc.z38;have hlt3:w.heap.size+2<u2.heap.size:=Nat.lt_of_lt_of_le lR hBx2.size;have hTr3:=hTr2.below hba;have hYr3:=Am hYr2 (Kp.of_below (e:=none) hba) (by decide);have hOb3:=Am hOb2 (Kp.of_below (e:=none) hba) (by decide);clear hHeld;refine hK.out _ _ ⟨QC hBx3 lF f0,QC hBx3 lF f1,QC hBx3 lS s0,QC hBx3 lS s1,QC hBx3 lS s2,QC hBx3 lS s3,QC hBx3 lS s4⟩ (fun hHeld=>?_);clear hK K
     try simp only[QX]
     refine wpAnyH_ready (rs:=[9]) (by kernel_rfl) (by simp) ?_;refine AllReadyH.cons (o:=⟨_,_,_,_,_,_⟩) rfl (fun K hK=>?_) AllReadyH.nil
     go_simp
     refine(Aa HC _).mono ?_;rintro e u4 ⟨rfl,hb4⟩
     try dsimp only
     have hBx4:=QB hBx3 hb4;have hZ4:=stay hb4 hZ3;have hTr4:=hTr3.below hb4;have hYr4:=Am hYr3 (Kp.of_below (e:=none) hb4) (by decide);have hOb4:=Am hOb3 (Kp.of_below (e:=none) hb4) (by decide);clear hHeld;refine hK.out _ _ ⟨QC hBx4 lF f0,QC hBx4 lF f1,QC hBx4 lS s0,QC hBx4 lS s1,QC hBx4 lS s2,QC hBx4 lS s3,QC hBx4 lS s4⟩ (fun hHeld=>?_);clear hK K
     try simp only[QX]
     refine wpAnyH_take (i:=10) (oi:=⟨_,_,_,_,_,_⟩) (v:=.agg (p.cells tg tc ya yn yc oa oc (Mc.newCall p.entry []).cells).toArray) rfl (by kernel_rfl) (by kernel_rfl) (by kernel_rfl) (fun _ _ _ h=>h) (Eg (by rfl) _ _ _ _ _ (by rfl) _ _ _ _ _ _ _ _ _ _ _ (Mc.newCall p.entry []).cells hNC (by rfl) (by rfl) (by rfl) (by rfl) (by rfl)) hHeld ?_
     try simp only[QX]
     refine wpAnyH_ready (rs:=[12]) (by kernel_rfl) (by simp) ?_;refine AllReadyH.cons (o:=⟨_,_,_,_,_,_⟩) rfl (fun K hK=>?_) AllReadyH.nil;refine Ay (by rfl) 156 _ _ (by rfl) u2.heap.size (p.cells tg tc ya yn yc oa oc (Mc.newCall p.entry []).cells).toArray (by rfl) (by rfl) 156 _ hZ4 (h38 tg tc ya yn yc oa oc) (by simp[Mc.Par.cells,Mc.cells38,hNC];rfl) (one38 tg tc ya yn yc oa oc) ?_;have hFin:=It (tc:=tc) CS CR hwd hBx4 hZ4 hlt3 hTr4 hYr4 hOb4;clear hHeld;refine hK.out _ _ ⟨(World.cell?_of_block (a:=⟨w.heap.size,0,none⟩) (Aj (by have:=hlt3;show w.heap.size≠_;omega))).trans (QC hBx4 lF f0),(World.cell?_of_block (a:=⟨w.heap.size,1,none⟩) (Aj (by have:=hlt3;show w.heap.size≠_;omega))).trans (QC hBx4 lF f1),(World.cell?_of_block (a:=⟨w.heap.size+1,0,none⟩) (Aj (by have:=hlt3;show w.heap.size+1≠_;omega))).trans (QC hBx4 lS s0),(World.cell?_of_block (a:=⟨w.heap.size+1,1,none⟩) (Aj (by have:=hlt3;show w.heap.size+1≠_;omega))).trans (QC hBx4 lS s1),(World.cell?_of_block (a:=⟨w.heap.size+1,2,none⟩) (Aj (by have:=hlt3;show w.heap.size+1≠_;omega))).trans (QC hBx4 lS s2),(World.cell?_of_block (a:=⟨w.heap.size+1,3,none⟩) (Aj (by have:=hlt3;show w.heap.size+1≠_;omega))).trans (QC hBx4 lS s3),(World.cell?_of_block (a:=⟨w.heap.size+1,4,none⟩) (Aj (by have:=hlt3;show w.heap.size+1≠_;omega))).trans (QC hBx4 lS s4)⟩ (fun hHeld=>?_);clear hK K
     try simp only[Act.put]
     refine wpAnyH_done (by kernel_rfl) ?_ _;go_wp2
     go_meet
     case rel=>exact⟨_,rfl,hFin⟩
   ·refine D9 (by rfl) (by rfl) ?_;have hba:Below u1.heap.size u1 (u1.alloc Mc.z38):=QN _;have hBx2:=QB hBx1 hba;have hZ2:=Ad u1 Mc.z38;have hlt2:w.heap.size+2<u1.heap.size:=Nat.lt_of_lt_of_le lR hBx1.size;have hTr2:=hTr1.below hba;have hYr2:=Am hYr1 (Kp.of_below (e:=none) hba) (by decide);clear hHeld;refine hK.out _ _ ⟨QC hBx2 lF f0,QC hBx2 lF f1,QC hBx2 lS s0,QC hBx2 lS s1,QC hBx2 lS s2,QC hBx2 lS s3,QC hBx2 lS s4⟩ (fun hHeld=>?_);clear hK K
    try simp only[QX]
    refine wpAnyH_ready (rs:=[6]) (by kernel_rfl) (by simp) ?_;refine AllReadyH.cons (o:=⟨_,_,_,_,_,_⟩) rfl (fun K hK=>?_) AllReadyH.nil
    go_simp
    refine(Aa HH _).mono ?_;rintro e u3 ⟨oa,oc,rfl,hOq,hb3⟩;have hOb3:=Av (base':=w.heap.size) hOq (Nat.le_trans hw0 hBx2.size);clear hOq
    try dsimp only
    have hBx3:=QB hBx2 hb3;have hZ3:=stay hb3 hZ2;have hTr3:=hTr2.below hb3;have hYr3:=Am hYr2 (Kp.of_below (e:=none) hb3) (by decide);clear hHeld;refine hK.out _ _ ⟨QC hBx3 lF f0,QC hBx3 lF f1,QC hBx3 lS s0,QC hBx3 lS s1,QC hBx3 lS s2,QC hBx3 lS s3,QC hBx3 lS s4⟩ (fun hHeld=>?_);clear hK K
    try simp only[QX]
    refine wpAnyH_ready (rs:=[9]) (by kernel_rfl) (by simp) ?_;refine AllReadyH.cons (o:=⟨_,_,_,_,_,_⟩) rfl (fun K hK=>?_) AllReadyH.nil
    go_simp
    refine(Aa HC _).mono ?_;rintro e u4 ⟨rfl,hb4⟩
    try dsimp only
    have hBx4:=QB hBx3 hb4;have hZ4:=stay hb4 hZ3;have hTr4:=hTr3.below hb4;have hYr4:=Am hYr3 (Kp.of_below (e:=none) hb4) (by decide);have hOb4:=Am hOb3 (Kp.of_below (e:=none) hb4) (by decide);clear hHeld;refine hK.out _ _ ⟨QC hBx4 lF f0,QC hBx4 lF f1,QC hBx4 lS s0,QC hBx4 lS s1,QC hBx4 lS s2,QC hBx4 lS s3,QC hBx4 lS s4⟩ (fun hHeld=>?_);clear hK K
    try simp only[QX]
    refine wpAnyH_take (i:=10) (oi:=⟨_,_,_,_,_,_⟩) (v:=.agg (p.cells tg tc ya yn yc oa oc (Mc.newCall p.entry []).cells).toArray) rfl (by kernel_rfl) (by kernel_rfl) (by kernel_rfl) (fun _ _ _ h=>h) (Eg (by rfl) _ _ _ _ _ (by rfl) _ _ _ _ _ _ _ _ _ _ _ (Mc.newCall p.entry []).cells hNC (by rfl) (by rfl) (by rfl) (by rfl) (by rfl)) hHeld ?_
    try simp only[QX]
    refine wpAnyH_ready (rs:=[12]) (by kernel_rfl) (by simp) ?_;refine AllReadyH.cons (o:=⟨_,_,_,_,_,_⟩) rfl (fun K hK=>?_) AllReadyH.nil;refine Ay (by rfl) 156 _ _ (by rfl) u1.heap.size (p.cells tg tc ya yn yc oa oc (Mc.newCall p.entry []).cells).toArray (by rfl) (by rfl) 156 _ hZ4 (h38 tg tc ya yn yc oa oc) (by simp[Mc.Par.cells,Mc.cells38,hNC];rfl) (one38 tg tc ya yn yc oa oc) ?_;have hFin:=It (tc:=tc) CS CR hwd hBx4 hZ4 hlt2 hTr4 hYr4 hOb4;clear hHeld;refine hK.out _ _ ⟨(World.cell?_of_block (a:=⟨w.heap.size,0,none⟩) (Aj (by have:=hlt2;show w.heap.size≠_;omega))).trans (QC hBx4 lF f0),(World.cell?_of_block (a:=⟨w.heap.size,1,none⟩) (Aj (by have:=hlt2;show w.heap.size≠_;omega))).trans (QC hBx4 lF f1),(World.cell?_of_block (a:=⟨w.heap.size+1,0,none⟩) (Aj (by have:=hlt2;show w.heap.size+1≠_;omega))).trans (QC hBx4 lS s0),(World.cell?_of_block (a:=⟨w.heap.size+1,1,none⟩) (Aj (by have:=hlt2;show w.heap.size+1≠_;omega))).trans (QC hBx4 lS s1),(World.cell?_of_block (a:=⟨w.heap.size+1,2,none⟩) (Aj (by have:=hlt2;show w.heap.size+1≠_;omega))).trans (QC hBx4 lS s2),(World.cell?_of_block (a:=⟨w.heap.size+1,3,none⟩) (Aj (by have:=hlt2;show w.heap.size+1≠_;omega))).trans (QC hBx4 lS s3),(World.cell?_of_block (a:=⟨w.heap.size+1,4,none⟩) (Aj (by have:=hlt2;show w.heap.size+1≠_;omega))).trans (QC hBx4 lS s4)⟩ (fun hHeld=>?_);clear hK K
    try simp only[Act.put]
    refine wpAnyH_done (by kernel_rfl) ?_ _;go_wp2
    go_meet
    case rel=>exact⟨_,rfl,hFin⟩
  ·refine D9 (by rfl) (by rfl) ?_;have hba:Below wd.drew.heap.size wd.drew (wd.drew.alloc Mc.z38):=QN _;have hBx1:=QB hB0 hba;have hZ1:=Ad wd.drew Mc.z38;have hlt1:w.heap.size+2<wd.drew.heap.size:=Nat.lt_of_lt_of_le lR hB0.size;clear hHeld;refine hK.out _ _ ⟨QC hBx1 lF f0,QC hBx1 lF f1,QC hBx1 lS s0,QC hBx1 lS s1,QC hBx1 lS s2,QC hBx1 lS s3,QC hBx1 lS s4⟩ (fun hHeld=>?_);clear hK K
   try simp only[QX]
   refine wpAnyH_ready (rs:=[2]) (by kernel_rfl) (by simp) ?_;refine AllReadyH.cons (o:=⟨_,_,_,_,_,_⟩) rfl (fun K hK=>?_) AllReadyH.nil
   go_simp
   refine(Aa HT _ (hwd.trans (hBx1.mono hw0))).mono ?_;rintro e u2 ⟨tg,tc,ya,yn,yc,rfl,hTr2,hYq,-,hb2⟩;have hYr2:=Av (base':=w.heap.size) hYq (Nat.le_trans hw0 hBx1.size);clear hYq
   try dsimp only
   have hBx2:=QB hBx1 hb2;have hZ2:=stay hb2 hZ1;clear hHeld;refine hK.out _ _ ⟨QC hBx2 lF f0,QC hBx2 lF f1,QC hBx2 lS s0,QC hBx2 lS s1,QC hBx2 lS s2,QC hBx2 lS s3,QC hBx2 lS s4⟩ (fun hHeld=>?_);clear hK K
   try simp only[QX]
   refine wpAnyH_ready (rs:=[6]) (by kernel_rfl) (by simp) ?_;refine AllReadyH.cons (o:=⟨_,_,_,_,_,_⟩) rfl (fun K hK=>?_) AllReadyH.nil
   go_simp
   refine(Aa HH _).mono ?_;rintro e u3 ⟨oa,oc,rfl,hOq,hb3⟩;have hOb3:=Av (base':=w.heap.size) hOq (Nat.le_trans hw0 hBx2.size);clear hOq
   try dsimp only
   have hBx3:=QB hBx2 hb3;have hZ3:=stay hb3 hZ2;have hTr3:=hTr2.below hb3;have hYr3:=Am hYr2 (Kp.of_below (e:=none) hb3) (by decide);clear hHeld;refine hK.out _ _ ⟨QC hBx3 lF f0,QC hBx3 lF f1,QC hBx3 lS s0,QC hBx3 lS s1,QC hBx3 lS s2,QC hBx3 lS s3,QC hBx3 lS s4⟩ (fun hHeld=>?_);clear hK K
   try simp only[QX]
   refine wpAnyH_ready (rs:=[9]) (by kernel_rfl) (by simp) ?_;refine AllReadyH.cons (o:=⟨_,_,_,_,_,_⟩) rfl (fun K hK=>?_) AllReadyH.nil
   go_simp
   refine(Aa HC _).mono ?_;rintro e u4 ⟨rfl,hb4⟩
   try dsimp only
   have hBx4:=QB hBx3 hb4;have hZ4:=stay hb4 hZ3;have hTr4:=hTr3.below hb4;have hYr4:=Am hYr3 (Kp.of_below (e:=none) hb4) (by decide);have hOb4:=Am hOb3 (Kp.of_below (e:=none) hb4) (by decide);clear hHeld;refine hK.out _ _ ⟨QC hBx4 lF f0,QC hBx4 lF f1,QC hBx4 lS s0,QC hBx4 lS s1,QC hBx4 lS s2,QC hBx4 lS s3,QC hBx4 lS s4⟩ (fun hHeld=>?_);clear hK K
   try simp only[QX]
   refine wpAnyH_take (i:=10) (oi:=⟨_,_,_,_,_,_⟩) (v:=.agg (p.cells tg tc ya yn yc oa oc (Mc.newCall p.entry []).cells).toArray) rfl (by kernel_rfl) (by kernel_rfl) (by kernel_rfl) (fun _ _ _ h=>h) (Eg (by rfl) _ _ _ _ _ (by rfl) _ _ _ _ _ _ _ _ _ _ _ (Mc.newCall p.entry []).cells hNC (by rfl) (by rfl) (by rfl) (by rfl) (by rfl)) hHeld ?_
   try simp only[QX]
   refine wpAnyH_ready (rs:=[12]) (by kernel_rfl) (by simp) ?_;refine AllReadyH.cons (o:=⟨_,_,_,_,_,_⟩) rfl (fun K hK=>?_) AllReadyH.nil;refine Ay (by rfl) 156 _ _ (by rfl) wd.drew.heap.size (p.cells tg tc ya yn yc oa oc (Mc.newCall p.entry []).cells).toArray (by rfl) (by rfl) 156 _ hZ4 (h38 tg tc ya yn yc oa oc) (by simp[Mc.Par.cells,Mc.cells38,hNC];rfl) (one38 tg tc ya yn yc oa oc) ?_;have hFin:=It (tc:=tc) CS CR hwd hBx4 hZ4 hlt1 hTr4 hYr4 hOb4;clear hHeld;refine hK.out _ _ ⟨(World.cell?_of_block (a:=⟨w.heap.size,0,none⟩) (Aj (by have:=hlt1;show w.heap.size≠_;omega))).trans (QC hBx4 lF f0),(World.cell?_of_block (a:=⟨w.heap.size,1,none⟩) (Aj (by have:=hlt1;show w.heap.size≠_;omega))).trans (QC hBx4 lF f1),(World.cell?_of_block (a:=⟨w.heap.size+1,0,none⟩) (Aj (by have:=hlt1;show w.heap.size+1≠_;omega))).trans (QC hBx4 lS s0),(World.cell?_of_block (a:=⟨w.heap.size+1,1,none⟩) (Aj (by have:=hlt1;show w.heap.size+1≠_;omega))).trans (QC hBx4 lS s1),(World.cell?_of_block (a:=⟨w.heap.size+1,2,none⟩) (Aj (by have:=hlt1;show w.heap.size+1≠_;omega))).trans (QC hBx4 lS s2),(World.cell?_of_block (a:=⟨w.heap.size+1,3,none⟩) (Aj (by have:=hlt1;show w.heap.size+1≠_;omega))).trans (QC hBx4 lS s3),(World.cell?_of_block (a:=⟨w.heap.size+1,4,none⟩) (Aj (by have:=hlt1;show w.heap.size+1≠_;omega))).trans (QC hBx4 lS s4)⟩ (fun hHeld=>?_);clear hK K
   try simp only[Act.put]
   refine wpAnyH_done (by kernel_rfl) ?_ _;go_wp2
   go_meet
   case rel=>exact⟨_,rfl,hFin⟩
 case rest =>
  obtain⟨B,rfl,hBu⟩:=hcut;clear CF CS CR hwd HT HH HC h38 one38;obtain⟨k,v0,ok,rfl,hkw,hk0,hkE,hkf,hA,hS,hRb,ho1,ho2,hlt⟩:=Abr (Aa HG) hBu;have hR:=Aa HRR;rw[Aer,← hkE]at hR;have hSm:k.E.Small:=⟨fun n=>(ok.cm n).2,fun n=>(ok.cm n).1,fun n=>ok.hb n,by show k.room≤30;exact ok.rm.2,by show k.depth≤12;exact ok.dep.2⟩;have hfu:=ok.fu;rw[hkf]at hfu;obtain⟨fu,hfu'⟩:=Int.eq_ofNat_of_zero_le hfu.1;have hfu2:fu≤3000:=by omega
  have eF:p.fuel.toNat=fu:=by omega
  rw[eF]at hR;have HR:Hid (Mc.Left k.E fu (Mc.start p.entry) R):=⟨fun h=>(by cases h),fun _=>⟨by show (0:Nat)≤fu;omega,Aax _ _,by show (0:Nat)≤0;omega,hR⟩⟩;have HE:=Ac hSm;rw[hfu']at hS;have hk1:w.heap.size+1<k.w0.heap.size:=by rw[hk0];exact lt_of_block hS
  have hk2:w.heap.size+2<k.w0.heap.size:=by rw[hk0];exact lt_of_block hRb
  have HS:Hid (∀ S v wr,Mc.At k S v wr→wr.heap[w.heap.size+1]?=some (O26 p.entry p.ia p.ins.length p.ic p.room p.depth (fu:Int))∧wr.heap[w.heap.size+2]?=some (O27 none 0 0 0 0 0)):=fun S v wr h=>⟨(h.rows.keep _ hk1 (by omega) (Ne.symm ho1)).trans (by rw[hk0];exact hS),(h.rows.keep _ hk2 (by omega) (Ne.symm ho2)).trans (by rw[hk0];exact hRb)⟩;have HLW:Hid (w.heap.size≤k.w0.heap.size∧k.wE=w):=⟨by omega,hkw⟩;have HA:=Ac hA;have hBn:w.heap.size+2≠k.B:=by omega
  have hBn2:w.heap.size+2<k.B:=hlt;have HEn:=fun S v w h=>Mf k S v 1 0 w ok h;have HSt:Hid (∀ S v wr,Mc.At k S v wr→Mc.Bd k.E S→S.out.length≤S.steps→S.steps≤3000→Calls Tryz.prog 86 #[.pointer (some ⟨k.B,0,none⟩)] wr fun e w'=>e=.returned (.tuple #[])∧∃ v',Mc.At k (Mc.step k.E S) v' w'):=fun S v wr h hb h1 h2=>by
   obtain⟨o1,o2,o3,o4,_,_⟩:=Si (Aa HE) S.now;have hob:=hb.ob;have hwt:=hb.wt;have hrd:=hb.rd;have hil:k.E.ins.length≤1000:=ok.il;exact Yb k S v wr ok h ⟨by omega,by omega,by omega,by omega⟩ hb.nx (by omega) ⟨o1,o2,o3,o4⟩
  have HEN:=Ac HEn;clear HG HRR hBu hR hSm hS hRb hkw hk0 hkE hkf hA hfu hfu' eF ho1 ho2 hk1 hk2 HEn hlt hNC;go_wp2
  go_loopw [17] (fun _ wr=>∃ (S:Mc.S) (v:Mc.V),Hid (Mc.At k S v wr)∧Hid (Mc.Left k.E fu S R))
   (fun _ wr=>Mc.mr k fu wr)
  case atStart=>exact⟨_,_,HA,HR⟩
  case round =>
   clear HA HR;obtain⟨S,v,HA,HL⟩:=hrel;have hA:=Aa HA;have hL:=Aa HL;obtain⟨bS,bR⟩:=Aa HS S v wr hA;have c33:=hA.sees.c33;have c37:=hA.sees.c37;have s4:=(Ab bS 4).trans (show _=some (.int .i64 (fu:Int)) from rfl);have hmr:=hA.mr fu;cases he:S.ended with
   | true =>
    have hSR:=hL.1 he;subst hSR;rw[he]at c33;have c34:=hA.sees.c34;have c35:=hA.sees.c35;have c36:=hA.sees.c36;obtain⟨y0,y1,y2,y3⟩:=cl4 bR;obtain⟨z0,z1,z2,z3⟩:=fr4 bR;have lR:=lt_of_block bR;simp at y0 y1 y2 y3;have hlow:=hA.rows.low;rw[(Aa HLW).2]at hlow;have hout:=Av (base':=w.heap.size) hA.rows.out (Aa HLW).1;have hone:∀ j,(Value.slice v.xa S.out.length v.xc).ownBlock=some j→j≠w.heap.size+2:=fun j hj e=>by
     have:=(hA.rows.out.lt j hj).1;have:=(Aa HLW).1;rw[e]at hj;exact Az hA.rows.out (cs:=[.slice none 0 0,.int .i64 0,.int .i64 0,.int .i64 0]) bR (by decide) _ hj rfl
    have hO4:∀ a b c d,((((wr.setCell ⟨w.heap.size+2,0,none⟩ a).setCell ⟨w.heap.size+2,1,none⟩ b).setCell ⟨w.heap.size+2,2,none⟩ c).setCell ⟨w.heap.size+2,3,none⟩ d).ownsRow w.heap.size 3 1 (.slice v.xa S.out.length v.xc) S.out.length (S.out.map (Value.int .i64)):=fun a b c d=>Be hout (fun j hj=>by
     rw[Below.heap_setCell _ _ _ _ (by simpa using hone j hj),Below.heap_setCell _ _ _ _ (by simpa using hone j hj),Below.heap_setCell _ _ _ _ (by simpa using hone j hj),Below.heap_setCell _ _ _ _ (by simpa using hone j hj)])
    have HO4:=Ac hO4;clear hL HL HA hmr hout hone hO4 hA HS HSt HEN HE HLW bR bS;go_wp2;refine bodyPost_ret (v:=.agg #[.slice v.xa S.out.length v.xc,.int .i64 S.status,.int .i64 S.value,.int .i64 (S.steps:Int)]) (by simp[results,Tryz.results55,go_sem,y0,y1,y2,y3]) rfl ?_;exact⟨v.xa,v.xc,rfl,Aa HO4 _ _ _ _,(((hlow.setCell (by show w.heap.size≤w.heap.size+2;omega) _).setCell (by show w.heap.size≤w.heap.size+2;omega) _).setCell (by show w.heap.size≤w.heap.size+2;omega) _).setCell (by show w.heap.size≤w.heap.size+2;omega) _⟩
   | false =>
    rw[he]at c33 hmr;rw[if_neg (by simp)]at hmr;obtain⟨l1,l2,l3,l4⟩:=hL.2 he;by_cases hf:fu≤S.steps
    ·have hE:=Abh hL he hf;have hf':(fu:Int)≤(S.steps:Int):=by omega
     have hC:=Aa HEN S v wr hA;have HL2:Hid (Mc.Left k.E fu (S.fin 1 0) R):=⟨fun _=>hE,fun h=>(by cases h)⟩;clear hL HL HA hA l4 hE;go_wp2_with fail
     refine hC.mono ?_;rintro e w2 ⟨rfl,h2⟩;have hm2:=h2.mr fu;have HA2:=Ac h2;clear h2;go_wp2
     go_roundw
     case rel=>exact⟨_,v,HA2,HL2⟩
     case measure=>rw[hm2,hmr];simp[Mc.S.fin]
    ·have hf':¬ (fu:Int)≤(S.steps:Int):=by omega
     have HL2:Hid (Mc.Left k.E fu (Mc.step k.E S) R):=Yp (Aa HE) hL he hf;have hC:=Aa HSt S v wr hA l2 l3 (by omega);have hs1:=(Jj k.E S).1;have HS1:=Ac hs1;clear hL HL HA hA l4 hs1;go_wp2_with fail
     refine hC.mono ?_;rintro e w2 ⟨rfl,v2,h2⟩;have hm2:=h2.mr fu;have HA2:=Ac h2;clear h2;go_wp2
     go_roundw
     case rel=>exact⟨_,v2,HA2,HL2⟩
     case measure =>
      rw[hm2,hmr,Aa HS1]
      split<;>omega
def Mc.entryOf (m:Rd.Mth):Bool:=decide (m.cl=255)&&decide (m.params.length=0)
def Mc.hasEntry (ms:List Rd.Mth) (n:Int):Bool:=if n<0 then false else if (ms.length:Int)≤n then false else Mc.entryOf (ms.getD n.toNat Mc.noMeth)
def Mc.inAll:List Int→Bool
 | []=>true
 | n::l=>if n < -2147483648 then false else if 2147483647<n then false else Mc.inAll l
def Mc.insOk (l:List Int):Bool:=if 20<l.length then false else Mc.inAll l
def Mc.startErr (ms:List Rd.Mth) (e:Int) (l:List Int) (h d f:Int):Int :=
 if Mc.hasEntry ms e=false then 12 else if h<0 then 13 else if 30<h then 13 else if d<1 then 13 else if 12<d then 13 else if f<0 then 13 else if 3000<f then 13 else if Mc.insOk l=false then 13 else 0
theorem Qe (fa ma:Option Addr) (fn fc mc bm:Nat) (lm:List (Rd.Mth × MthV)) (n:Int) (w:World) (_hm6:lm.length≤1000) (hp:∀ q∈lm,q.1.params.length≤1000) (hm:MthsIn w bm (.slice ma lm.length mc) lm) :
  Calls Tryz.prog 81 #[.agg #[.slice fa fn fc,.slice ma lm.length mc],.int .i64 n] w fun e w'=>e=.returned (.bool (Mc.hasEntry (lm.map Prod.fst) n))∧Below w.heap.size w w':=by
 unfold Mc.hasEntry;rw[List.length_map];by_cases h1:n<0
 ·rw[if_pos h1];go_enter Tryz.func81,Tryz.ntmps81;go_wp2;go_ret;exact⟨rfl,QN _⟩
 ·rw[if_neg h1];by_cases h2:(lm.length:Int)≤n
  ·rw[if_pos h2];go_enter Tryz.func81,Tryz.ntmps81;go_wp2;go_ret;exact⟨rfl,QN _⟩
  ·rw[if_neg h2];obtain⟨q,rfl⟩:=Int.eq_ofNat_of_zero_le (show 0≤n by omega);have hq:q<lm.length:=by omega
   obtain⟨m,g,hg,hglt,hcell,his⟩:=hm.mth hq;have e0:(lm.map Prod.fst).getD (Int.toNat (q:Int)) Mc.noMeth=lm[q].1:=by simp[List.getD_eq_getElem?_getD,hq]
   rw[e0];have hpl:=hp _ (List.getElem_mem hq);obtain⟨i1,i2,i3,i4,i5,i6,i7,-⟩:=his;generalize lm[q].1=M at *;have y0:=hcell 0 (.int .i64 M.cl) (by rw[← i1];rfl);have y2:=hcell 2 (.slice m.pa M.params.length m.pc) (by first | (rw[← i7];rfl) | (rw[i7];rfl) | rfl)
   rw[Nat.add_zero]at y0;unfold Mc.entryOf;generalize M.cl=oc at *;generalize M.params.length=pl at *;have kb:(q:Int)<(lm.length:Int):=by omega
   clear hcell hm e0 i1 i2 i3 i4 i5 i6 i7;subst hg;by_cases hc:oc=255
   ·subst hc;by_cases hl0:pl=0
    ·subst hl0;go_enter Tryz.func81,Tryz.ntmps81;go_wp2;go_ret;exact⟨by rfl,QN _⟩
    ·have hl':((pl:Int)==0)=false:=by simpa using hl0
     go_enter Tryz.func81,Tryz.ntmps81;go_wp2;go_ret;exact⟨by simp,QN _⟩
   ·have hc':(oc==255)=false:=by simpa using hc
    go_enter Tryz.func81,Tryz.ntmps81;go_wp2;go_ret;exact⟨by simp,QN _⟩
theorem Ua (l:List Int) (a:Option Addr) (c:Nat) (w:World) (_hl:l.length≤maxLen) (hi:IntR w a l) :
  Calls Tryz.prog 82 #[.slice a l.length c] w fun e w'=>e=.returned (.bool (Mc.insOk l))∧w'=w:=by
 unfold Mc.insOk;by_cases h1:20<l.length
 ·rw[if_pos h1];have h1':(20:Int)<(l.length:Int):=by omega
  go_enter Tryz.func82,Tryz.ntmps82;go_wp2;go_ret;exact⟨rfl,rfl⟩
 ·rw[if_neg h1];have h1':¬ (20:Int)<(l.length:Int):=by omega
  generalize hr:Mc.inAll l=r;have HR:Hid (Mc.inAll (l.drop 0)=r):=hr;clear hr;have HI:=Ac hi;clear hi;go_enter Tryz.func82,Tryz.ntmps82;go_wp2
  go_loopw [10] (fun v wr=>∃ k:Nat,k≤l.length∧v=.int .i64 (k:Int)∧Hid (Mc.inAll (l.drop k)=r)∧wr=w)
   (fun v _=>l.length-(intOf v).toNat)
  case atStart=>exact⟨0,by omega,rfl,HR,rfl⟩
  case round =>
   clear HR;obtain⟨k,hk,rfl,HR,rfl⟩:=hrel;by_cases hkn:k<l.length
   ·obtain⟨g,o,ha,hglt,y0⟩:=Aa HI k hkn;have hr:=Aa HR;rw[List.drop_eq_getElem_cons hkn,Mc.inAll]at hr;have ey:l.getD k 0=l[k]:=by simp[List.getD_eq_getElem?_getD,hkn]
    rw[ey]at y0;generalize l[k]=x at *;have kb:(k:Int)<(l.length:Int):=by omega
    clear HR HI ey;subst ha;by_cases hx:x < -2147483648
    ·rw[if_pos hx]at hr;have HF:=Ac hr;clear hr;go_wp2;go_ret;exact⟨by rw[← Aa HF];rfl,rfl⟩
    ·rw[if_neg hx]at hr;by_cases hx2:2147483647<x
     ·rw[if_pos hx2]at hr;have HF:=Ac hr;clear hr;go_wp2;go_ret;exact⟨by rw[← Aa HF];rfl,rfl⟩
     ·rw[if_neg hx2]at hr;have HF:Hid (Mc.inAll (l.drop (k+1))=r):=hr;clear hr;go_wp2
      go_roundw
      case rel=>exact⟨k+1,by omega,by go_num,HF,trivial⟩
      case measure=>simp[intOf];omega
   ·have hr:=Aa HR;rw[List.drop_eq_nil_of_le (by omega),Mc.inAll]at hr;have HF:=Ac hr;have kb:¬ (k:Int)<(l.length:Int):=by omega
    clear hr HR;go_wp2;go_ret;exact⟨by rw[← Aa HF];rfl,rfl⟩
theorem P8 (fa ma ia:Option Addr) (fn fc mc bm ic:Nat) (lm:List (Rd.Mth × MthV)) (en:Int) (l:List Int) (h d f:Int) (w:World) (hm6:lm.length≤1000) (hp:∀ q∈lm,q.1.params.length≤1000) (hm:MthsIn w bm (.slice ma lm.length mc) lm) (hl:l.length≤maxLen) (hi:IntR w ia l) :
  Calls Tryz.prog 54 #[.agg #[.slice fa fn fc,.slice ma lm.length mc],.agg #[.int .i64 en,.slice ia l.length ic,.int .i64 h,.int .i64 d,.int .i64 f]] w fun e w'=>e=.returned (.int .i64 (Mc.startErr (lm.map Prod.fst) en l h d f))∧Below w.heap.size w w':=by
 have hB0:=Ai w (O1 fa fn fc ma lm.length mc) (O26 en ia l.length ic h d f);have C0:=Ak w (O1 fa fn fc ma lm.length mc) (O26 en ia l.length ic h d f);have D0:=Ah w (O1 fa fn fc ma lm.length mc) (O26 en ia l.length ic h d f);have HE:Hid (∀ w',Below w.heap.size w w'→Calls Tryz.prog 81 #[.agg #[.slice fa fn fc,.slice ma lm.length mc],.int .i64 en] w' fun e w''=>e=.returned (.bool (Mc.hasEntry (lm.map Prod.fst) en))∧Below w'.heap.size w' w''):=fun w' hb =>
  Qe fa ma fn fc mc bm lm en w' hm6 hp (hm.kp (Kp.of_below (e:=none) hb) (by decide) (by decide) (by decide) (by decide) (by decide))
 have HN:Hid (∀ w',Below w.heap.size w w'→Calls Tryz.prog 82 #[.slice ia l.length ic] w' fun e w''=>e=.returned (.bool (Mc.insOk l))∧w''=w'):=fun w' hb=>Ua l ia ic w' hl (hi.below hb);clear hm hi;unfold Mc.startErr;generalize Mc.hasEntry (lm.map Prod.fst) en=be at *;generalize Mc.insOk l=bi at *;by_cases c1:be=false
 ·subst c1;rw[if_pos rfl];go_enter Tryz.func54,Tryz.ntmps54;go_wp2_with fail
  refine(Aa HE _ hB0).mono ?_;rintro e w1 ⟨rfl,hb1⟩;have hB1:=QB hB0 hb1;go_wp2;go_ret;exact⟨rfl,hB1⟩
 have c1':be=true:=by simpa using c1
 subst c1';rw[if_neg c1];clear c1;generalize hV:(if h<0 then (13:Int) else _)=V
 have HV:=Ac hV;clear hV;go_enter Tryz.func54,Tryz.ntmps54;go_wp2_with fail
 refine(Aa HE _ hB0).mono ?_;rintro e w1 ⟨rfl,hb1⟩;have hB1:=QB hB0 hb1;have C1:=stay hb1 C0;have D1:=stay hb1 D0;have s1:=(Ab D1 1).trans (show _=some (.slice ia l.length ic) from rfl);have s2:=(Ab D1 2).trans (show _=some (.int .i64 h) from rfl);have s3:=(Ab D1 3).trans (show _=some (.int .i64 d) from rfl);have s4:=(Ab D1 4).trans (show _=some (.int .i64 f) from rfl);clear C0 D0 C1 D1 hB0 hb1 HE;by_cases c2:h<0
 ·have HW:Hid (V=13):=by unfold Hid;rw[← Aa HV,if_pos c2]
  clear HV;go_wp2;go_ret;exact⟨by rw[Aa HW];rfl,hB1⟩
 by_cases c3:30<h
 ·have HW:Hid (V=13):=by unfold Hid;rw[← Aa HV,if_neg c2,if_pos c3]
  clear HV;go_wp2;go_ret;exact⟨by rw[Aa HW];rfl,hB1⟩
 by_cases c4:d<1
 ·have HW:Hid (V=13):=by unfold Hid;rw[← Aa HV,if_neg c2,if_neg c3,if_pos c4]
  clear HV;go_wp2;go_ret;exact⟨by rw[Aa HW];rfl,hB1⟩
 by_cases c5:12<d
 ·have HW:Hid (V=13):=by unfold Hid;rw[← Aa HV,if_neg c2,if_neg c3,if_neg c4,if_pos c5]
  clear HV;go_wp2;go_ret;exact⟨by rw[Aa HW];rfl,hB1⟩
 by_cases c6:f<0
 ·have HW:Hid (V=13):=by unfold Hid;rw[← Aa HV,if_neg c2,if_neg c3,if_neg c4,if_neg c5,if_pos c6]
  clear HV;go_wp2;go_ret;exact⟨by rw[Aa HW];rfl,hB1⟩
 by_cases c7:3000<f
 ·have HW:Hid (V=13):=by unfold Hid;rw[← Aa HV,if_neg c2,if_neg c3,if_neg c4,if_neg c5,if_neg c6,if_pos c7]
  clear HV;go_wp2;go_ret;exact⟨by rw[Aa HW];rfl,hB1⟩
 by_cases c8:bi=false
 ·subst c8;have HW:Hid (V=13):=by unfold Hid;rw[← Aa HV,if_neg c2,if_neg c3,if_neg c4,if_neg c5,if_neg c6,if_neg c7,if_pos rfl]
  clear HV;go_wp2_with fail
  refine(Aa HN _ hB1).mono ?_;rintro e w2 ⟨rfl,rfl⟩;go_wp2;go_ret;exact⟨by rw[Aa HW];rfl,hB1⟩
 have c8':bi=true:=by simpa using c8
 subst c8';have HW:Hid (V=0):=by unfold Hid;rw[← Aa HV,if_neg c2,if_neg c3,if_neg c4,if_neg c5,if_neg c6,if_neg c7,if_neg c8]
 clear HV c8;go_wp2_with fail
 refine(Aa HN _ hB1).mono ?_;rintro e w2 ⟨rfl,rfl⟩;go_wp2;go_ret;exact⟨by rw[Aa HW];rfl,hB1⟩
structure Mc.Res where
 out:List Int
 status:Int
 value:Int
 steps:Int
 err:Int
def Mc.Res.dec (a b:Mc.Res):Decidable (a=b):=if h:a.out=b.out∧a.status=b.status∧a.value=b.value∧a.steps=b.steps∧a.err=b.err then .isTrue (by obtain⟨_,_,_,_,_⟩:=a;obtain⟨_,_,_,_,_⟩:=b;simp only at h;simp[h]) else .isFalse (fun e=>h (by subst e;simp))
def Mc.env (cs:List Rd.Cls) (ms:List Rd.Mth) (ins:List Int) (h d:Int):Mc.E:=⟨Tr.tree cs,Ai4 cs,ms,ins,h,d⟩
def Mc.resOf (R:Mc.S):Mc.Res:=⟨R.out,R.status,R.value,R.steps,0⟩
def Mc.runOf (s:List UInt8) (en:Int) (ins:List Int) (h d f:Int):Mc.Res :=
 if (Agu s).1≠0 then ⟨[],0,0,0,(Agu s).1⟩
 else if Mc.startErr (Rd.read s).1.methods en ins h d f≠0 then ⟨[],0,0,0,Mc.startErr (Rd.read s).1.methods en ins h d f⟩
 else Mc.resOf (Mc.run (Mc.env (Rd.read s).1.classes (Rd.read s).1.methods ins h d) f.toNat en)
theorem Qd {s:List UInt8} (h:(Agu s).1=0):(Rf.formed s).1=0:=by
 unfold Agu Ajb at h;by_cases h1:(Rf.formed s).1≠0
 ·rw[if_pos h1]at h;exact absurd h h1
 ·simpa using h1
theorem N8 {s:List UInt8} (h:(Rf.formed s).1=0):(Rd.read s).2=0:=by
 rw[← Cf]at h;unfold Aga at h;by_cases h0:(Rd.read s).2≠0
 ·rw[if_pos h0]at h;exact absurd h h0
 ·simpa using h0
theorem Qf {ms:List Rd.Mth}{en:Int}{l:List Int}{h d f:Int} (z:Mc.startErr ms en l h d f=0) :
  Mc.hasEntry ms en=true∧0≤h∧h≤30∧1≤d∧d≤12∧0≤f∧f≤3000∧Mc.insOk l=true:=by
 unfold Mc.startErr at z;by_cases c1:Mc.hasEntry ms en=false
 ·rw[if_pos c1]at z;omega
 by_cases c8:Mc.insOk l=false
 ·simp only[c8]at z;split at z<;>(try omega);split at z<;>(try omega);split at z<;>(try omega);split at z<;>(try omega);split at z<;>(try omega);split at z<;>(try omega);split at z<;>(try omega)
  simp at z
 rw[if_neg c1]at z;refine⟨by simpa using c1,?_,?_,?_,?_,?_,?_,by simpa using c8⟩
 all_goals iterate 6 (try (split at z<;>try omega))
theorem Aaa {s:List UInt8} (hf:FilB (Rd.read s).1) {a1 a2 ia:Option Addr}{n1 c1 c2 bm ic:Nat}{lcs:List (Rd.Cls × Value)}{lms:List (Rd.Mth × MthV)}{en h d f:Int}{ins:List Int}{w:World}
  (e1:lcs.map Prod.fst=(Rd.read s).1.classes) (hc:ClssIn w bm (.slice a1 n1 c1) lcs) (e2:lms.map Prod.fst=(Rd.read s).1.methods) (hm:MthsIn w bm (.slice a2 lms.length c2) lms) (hl:ins.length≤1000) (hi:IntR w ia ins)
  (hd:1≤d∧d≤12) (hh:0≤h∧h≤30) (hfu:0≤f∧f≤3000) :
  (⟨a1,n1,c1,a2,c2,en,ia,ic,ins,h,d,f,lcs,lms⟩:Mc.Par).Good w bm bm:=by
 have hcl:lcs.length≤6:=by have:=hf.c6;rw[← e1]at this;simpa using this
 have hml:lms.length≤6:=by have:=hf.m6;rw[← e2]at this;simpa using this
 have hc1:∀ q∈lcs,ClsB q.1:=fun q hq=>hf.cb _ (by rw[← e1];exact List.mem_map_of_mem hq);have hm1:∀ q∈lms,MthB q.1:=fun q hq=>hf.mb _ (by rw[← e2];exact List.mem_map_of_mem hq);refine⟨hc,hcl,fun q hq=>?_,hm,?_,fun q hq=>⟨?_,fun x hx=>?_⟩,fun q hq=>?_,fun q hq=>⟨?_,fun x hx=>?_⟩,hi,hl,hd,hh,hfu⟩
 ·have:=(hc1 q hq).fl;omega
 ·show lms.length≤1000;omega
 ·have:=(hm1 q hq).c2;omega
 ·have:=(hm1 q hq).cb x hx;unfold By at this;omega
 ·have:=(hm1 q hq).pl;omega
 ·have:=(hm1 q hq).h4;omega
 ·have:=((hm1 q hq).hb x hx).tg;unfold By at this;omega
theorem Acr (s:ByteArray) (en:Int) (ins:List Int) (h d f:Int) (ia:Option Addr) (ic:Nat) (w:World) (hs:s.size≤maxLen) (hl:ins.length≤maxLen) (hi:IntR w ia ins) (Q:Mc.Res) (hQ:Mc.runOf s.data.toList en ins h d f=Q) :
  Calls Tryz.prog 21 #[.string s,.agg #[.int .i64 en,.slice ia ins.length ic,.int .i64 h,.int .i64 d,.int .i64 f]] w fun e w' =>
   ∃ xa xc,e=.returned (.tuple #[.agg #[.slice xa Q.out.length xc,.int .i64 Q.status,.int .i64 Q.value,.int .i64 Q.steps],.int .i64 Q.err])∧IntsAt w' w.heap.size (.slice xa Q.out.length xc) Q.out∧Below w.heap.size w w':=by
 have hC:∀ w,Calls Tryz.prog 53 #[.string s] w fun e w'=>∃ a1 n1 c1 a2 n2 c2,e=.returned (.tuple #[.agg #[.slice a1 n1 c1,.slice a2 n2 c2],.agg #[.int .i64 (Agu s.data.toList).1,.int .i64 (Agu s.data.toList).2.1,.int .i64 (Agu s.data.toList).2.2]]) ∧
    ((Agu s.data.toList).1=0→∃ bm lcs lms,lcs.map Prod.fst=(Rd.read s.data.toList).1.classes∧ClssIn w' bm (.slice a1 n1 c1) lcs∧lms.map Prod.fst=(Rd.read s.data.toList).1.methods∧MthsIn w' bm (.slice a2 n2 c2) lms)∧Below w.heap.size w w':=fun w=>by
  have hc:=Pa s (Agb (Ahx (Rd.read s.data.toList).1.classes (Rd.read s.data.toList).1.methods) 0 (Rd.read s.data.toList).1.methods) w hs
   (fun h0 a1 n1 c1 a2 n2 c2 bm lcs lms w' hb hl1 hc hl2 hm=>by
    rw[Cf]at h0;obtain⟨k,_,_⟩:=Cu _ h0;exact Mr k hl1 hc hl2 hm)
  rw[Mx]at hc;exact hc
 have hFB:(Agu s.data.toList).1=0→FilB (Rd.read s.data.toList).1:=fun z=>Aeo _ (N8 (Qd z));unfold Mc.runOf at hQ;have HQ:Hid (∀ e,(Agu s.data.toList).1=e→e≠0→Q=⟨[],0,0,0,e⟩):=fun e he h0=>by rw[← hQ,if_pos (by rw[he];exact h0),he]
 have HQ2:Hid ((Agu s.data.toList).1=0→(if Mc.startErr (Rd.read s.data.toList).1.methods en ins h d f≠0 then ⟨[],0,0,0,Mc.startErr (Rd.read s.data.toList).1.methods en ins h d f⟩
 else Mc.resOf (Mc.run (Mc.env (Rd.read s.data.toList).1.classes (Rd.read s.data.toList).1.methods ins h d) f.toNat en))=Q):=fun z=>by
  have h1:=hQ;rw[if_neg (show ¬ (Agu s.data.toList).1≠0 by rw[z];simp)]at h1;exact h1
 clear hQ;generalize hA:Agu s.data.toList=A at *;generalize hRd:Rd.read s.data.toList=rd at *;clear hA;obtain⟨e1,e2,e3⟩:=A;simp only at hC hFB HQ HQ2;have HC:=Ac hC;have HFB:=Ac hFB;have HI:=Ac hi;clear hC hFB hi;have hB0:=Ai w (O26 en ia ins.length ic h d f) (O27 none 0 0 0 0 0);have C0:=Ak w (O26 en ia ins.length ic h d f) (O27 none 0 0 0 0 0);have D0:=Ah w (O26 en ia ins.length ic h d f) (O27 none 0 0 0 0 0);by_cases hz:e1=0
 ·subst hz;go_enter Tryz.func21,Tryz.ntmps21;go_wp2_with fail
  refine(Aa HC _).mono ?_;rintro e w1 ⟨a1,n1,c1,a2,n2,c2,rfl,hrep,hb1⟩;obtain⟨bm,lcs,lms,hl1,hcs,hl2,hms⟩:=hrep trivial;have hFB:=Aa HFB trivial;have hQ:=Aa HQ2 trivial;clear HQ HQ2 HFB hrep;have hnl:n2=lms.length:=by obtain⟨_,_,hsh⟩:=Ae hms.1;simp only[Value.slice.injEq]at hsh;exact hsh.2.1
  subst hnl;have hB1:=QB hB0 hb1;have C1:=stay hb1 C0;have D1:=stay hb1 D0;have l1:=lt_of_block C1;have l2:=lt_of_block D1;have C2:=Af (Af C1 (O1 a1 n1 c1 a2 lms.length c2)) (O8 0 e2 e3);have D2:=Af (Af D1 (O1 a1 n1 c1 a2 lms.length c2)) (O8 0 e2 e3);have F2:=Ak w1 (O1 a1 n1 c1 a2 lms.length c2) (O8 0 e2 e3);have E2:=Ah w1 (O1 a1 n1 c1 a2 lms.length c2) (O8 0 e2 e3);have hB12:=Ai w1 (O1 a1 n1 c1 a2 lms.length c2) (O8 0 e2 e3);have hB2:=QB hB1 hB12;have hms2:=hms.kp (Kp.of_below (e:=none) (hB12.mono (Nat.le_refl _))) (by decide) (by decide) (by decide) (by decide) (by decide);have hcs2:=hcs.kp (Kp.of_below (e:=none) (hB12.mono (Nat.le_refl _))) (by decide) (by decide);have hp:∀ q∈lms,q.1.params.length≤1000:=fun q hq=>by
   have:=(hFB.mb q.1 (by rw[← hl2];exact List.mem_map_of_mem hq)).pl;omega
  have hml:lms.length≤1000:=by have:=hFB.m6;rw[← hl2,List.length_map]at this;omega
  have hSE:=P8 a1 a2 ia n1 c1 c2 bm ic lms en ins h d f _ hml hp hms2 hl ((Aa HI).below hB2);rw[hl2]at hSE;have hGood:=fun W (hb:Below _ _ W)=>Aaa (s:=s.data.toList) (ia:=ia) (ic:=ic) (en:=en) (h:=h) (d:=d) (f:=f) (ins:=ins) (w:=W) (by rw[hRd];exact hFB) (by rw[hRd];exact hl1) (hcs2.kp (Kp.of_below (e:=none) hb) (by decide) (by decide)) (by rw[hRd];exact hl2) (hms2.kp (Kp.of_below (e:=none) hb) (by decide) (by decide) (by decide) (by decide) (by decide)) (hi:=((Aa HI).below hB2).below hb);have HG:=Ac hGood;have HSE:=Ac hSE;have HQ:=Ac hQ;clear hSE hGood hQ hms hms2 hcs hcs2 hp;generalize hse:Mc.startErr rd.1.methods en ins h d f=se at *;have HZ:=Ac hse;clear hse
  go_upto_region 2 with fail
  generalize (w1.alloc (O1 a1 n1 c1 a2 lms.length c2)).alloc (O8 0 e2 e3)=w2 at *;have s0:=(Ab C2 0).trans (show _=some (.int .i64 en) from rfl);have s1:=(Ab C2 1).trans (show _=some (.slice ia ins.length ic) from rfl);have s2:=(Ab C2 2).trans (show _=some (.int .i64 h) from rfl);have s3:=(Ab C2 3).trans (show _=some (.int .i64 d) from rfl);have s4:=(Ab C2 4).trans (show _=some (.int .i64 f) from rfl);have f0:=(Ab F2 0).trans (show _=some (.slice a1 n1 c1) from rfl);have f1:=(Ab F2 1).trans (show _=some (.slice a2 lms.length c2) from rfl);have k0:=(Ab E2 0).trans (show _=some (.int .i64 0) from rfl);go_wp2_with fail
  refine(Aa HSE).mono ?_;rintro e w3 ⟨rfl,hb3⟩;have hB3:=QB hB2 hb3;have hs3:=hB3.size;have C3:=stay hb3 C2;have D3:=stay hb3 D2;have F3:=stay hb3 F2;clear s0 s1 s2 s3 s4 f0 f1 k0 HSE C0 D0 C1 D1 C2 D2 E2;by_cases hse:se=0
  ·subst hse;have hst:=Qf (Aa HZ);obtain⟨-,g1,g2,g3,g4,g5,g6,g7⟩:=hst;have hg:=Aa HG w3 hb3 (by unfold Mc.insOk at g7;split at g7<;>first | simp at g7 | omega) ⟨g3,g4⟩ ⟨g1,g2⟩ ⟨g5,g6⟩
   have hQ:=Aa HQ;rw[if_neg (by simp)]at hQ;generalize hR:Mc.run (Mc.env rd.1.classes rd.1.methods ins h d) f.toNat en=R at hQ;subst hQ;have hRun:=Abq _ _ _ w3 hg R (by rw[← hR];simp only[Mc.Par.E,Mc.env,X2,hl1,hl2]);have HRUN:=Ac hRun;have s0:=(Ab C3 0).trans (show _=some (.int .i64 en) from rfl);have s1:=(Ab C3 1).trans (show _=some (.slice ia ins.length ic) from rfl);have s2:=(Ab C3 2).trans (show _=some (.int .i64 h) from rfl);have s3:=(Ab C3 3).trans (show _=some (.int .i64 d) from rfl);have s4:=(Ab C3 4).trans (show _=some (.int .i64 f) from rfl);have f0:=(Ab F3 0).trans (show _=some (.slice a1 n1 c1) from rfl);have f1:=(Ab F3 1).trans (show _=some (.slice a2 lms.length c2) from rfl);have l4:=lt_of_block D3;clear hRun hg HG HQ HZ hR;go_wp2_with fail
   refine(Aa HRUN).mono ?_;rintro e w4 ⟨xa,xc,rfl,hout,hb4⟩;have hBX:=QB hB3 hb4;have D4:=stay hb4 D3;have r0:=(Ab D4 0).trans (show _=some (.slice none 0 0) from rfl);have r1:=(Ab D4 1).trans (show _=some (.int .i64 0) from rfl);have r2:=(Ab D4 2).trans (show _=some (.int .i64 0) from rfl);have r3:=(Ab D4 3).trans (show _=some (.int .i64 0) from rfl);obtain⟨z0,z1,z2,z3⟩:=fr4 D4;have l5:=lt_of_block D4;have HO:Hid (∀ a b c d,IntsAt ((((w4.setCell ⟨w.heap.size+1,0,none⟩ a).setCell ⟨w.heap.size+1,1,none⟩ b).setCell ⟨w.heap.size+1,2,none⟩ c).setCell ⟨w.heap.size+1,3,none⟩ d) w.heap.size (.slice xa R.out.length xc) R.out):=fun a b c d =>
    Av (Am hout (e:=none) ((((Kp.set_lo (by omega) a).trans (Kp.set_lo (by omega) b)).trans (Kp.set_lo (by omega) c)).trans (Kp.set_lo (by omega) d)) (by decide)) (by omega)
   clear hout D3 D4 C3 F3 hb3 hb4 HRUN s0 s1 s2 s3 s4 f0 f1;go_wp2_with fail
   refine bodyPost_ret (v:=.tuple #[.agg #[.slice xa R.out.length xc,.int .i64 R.status,.int .i64 R.value,.int .i64 (R.steps:Int)],.int .i64 0]) (by simp[results,Tryz.results21,go_sem,r0,r1,r2,r3]) rfl ?_;exact⟨xa,xc,rfl,Aa HO _ _ _ _,by repeat (first | (with_reducible exact hBX) | (with_reducible refine Below.drew ?_) | (with_reducible refine Below.setCell ?_ (by simp;omega) _) | (with_reducible refine Below.setCell ?_ (by simp) _))⟩
  ·have hQ:=Aa HQ;rw[if_pos hse]at hQ;subst hQ;have hse':(se != 0)=true:=by simpa using hse
   have hBX:=hB3;have r0:=(Ab D3 0).trans (show _=some (.slice none 0 0) from rfl);have r1:=(Ab D3 1).trans (show _=some (.int .i64 0) from rfl);have r2:=(Ab D3 2).trans (show _=some (.int .i64 0) from rfl);have r3:=(Ab D3 3).trans (show _=some (.int .i64 0) from rfl);obtain⟨z0,z1,z2,z3⟩:=fr4 D3;have l5:=lt_of_block D3;clear HG HQ HZ;go_wp2_with fail
   refine bodyPost_ret (v:=.tuple #[.agg #[.slice none 0 0,.int .i64 0,.int .i64 0,.int .i64 0],.int .i64 se]) (by simp[results,Tryz.results21,go_sem,r0,r1,r2,r3]) rfl ?_;exact⟨none,0,rfl,World.ownsRow_nil _ _ _ _,by repeat (first | (with_reducible exact hBX) | (with_reducible refine Below.drew ?_) | (with_reducible refine Below.setCell ?_ (by simp;omega) _) | (with_reducible refine Below.setCell ?_ (by simp) _))⟩
 ·go_enter Tryz.func21,Tryz.ntmps21;go_wp2_with fail
  refine(Aa HC _).mono ?_;rintro e w1 ⟨a1,n1,c1,a2,n2,c2,rfl,-,hb1⟩;have hB1:=QB hB0 hb1;have D1:=stay hb1 D0;have l1:=lt_of_block D1;have D2:=Af (Af D1 (O1 a1 n1 c1 a2 n2 c2)) (O8 e1 e2 e3);have E2:=Ah w1 (O1 a1 n1 c1 a2 n2 c2) (O8 e1 e2 e3);have hB2:=hB1.trans ((Ai w1 (O1 a1 n1 c1 a2 n2 c2) (O8 e1 e2 e3)).mono hB1.size);have hqq:=Aa HQ e1 rfl hz;subst hqq;have hBX:=hB2;have hz':(e1 != 0)=true:=by simpa using hz
  have r0:=(Ab D2 0).trans (show _=some (.slice none 0 0) from rfl);have r1:=(Ab D2 1).trans (show _=some (.int .i64 0) from rfl);have r2:=(Ab D2 2).trans (show _=some (.int .i64 0) from rfl);have r3:=(Ab D2 3).trans (show _=some (.int .i64 0) from rfl);obtain⟨z0,z1,z2,z3⟩:=fr4 D2;have k0:=(Ab E2 0).trans (show _=some (.int .i64 e1) from rfl);have l2:=lt_of_block D2;have l3:=lt_of_block E2;go_wp2_with fail
  generalize (w1.alloc (O1 a1 n1 c1 a2 n2 c2)).alloc (O8 e1 e2 e3)=w2 at *
  go_region
  all_goals
   go_wp2_with fail
   refine bodyPost_ret (v:=.tuple #[.agg #[.slice none 0 0,.int .i64 0,.int .i64 0,.int .i64 0],.int .i64 e1]) (by simp[results,Tryz.results21,go_sem,r0,r1,r2,r3]) rfl ?_;exact⟨none,0,rfl,World.ownsRow_nil _ _ _ _,by repeat (first | (with_reducible exact hBX) | (with_reducible refine Below.drew ?_) | (with_reducible refine Below.setCell ?_ (by simp;omega) _) | (with_reducible refine Below.setCell ?_ (by simp) _))⟩
theorem IntR.of_ints {w:World}{b:Nat}{a:Option Addr}{n c:Nat}{l:List Int} (h:IntsAt w b (.slice a n c) l):IntR w a l:=fun i hi=>by
 obtain⟨xa,xc,hsh⟩:=Ae h;simp only[Value.slice.injEq]at hsh;obtain⟨rfl,rfl,rfl⟩:=hsh;obtain⟨g,hg,hglt,_,hcell⟩:=Ao h (by omega);refine⟨g,0,hg,hglt,?_⟩;rw[Nat.zero_add,hcell i (by simpa using hi)];simp[List.getD_eq_getElem?_getD,hi]
theorem IntR.nil (w:World) (a:Option Addr):IntR w a []:=fun i hi=>absurd hi (by simp)
theorem Zb (la lb:List Int) (a1 a2:Option Addr) (c1 c2:Nat) (w:World) (ha:IntR w a1 la) (hb:IntR w a2 lb) (hl:la.length≤100000) (_hl2:lb.length≤100000) :
  Calls Tryz.prog 65 #[.slice a1 la.length c1,.slice a2 lb.length c2] w fun e w'=>e=.returned (.bool (decide (la=lb)))∧Below w.heap.size w w':=by
 have HA:=Ac ha;have HB:=Ac hb;clear ha hb;by_cases hlen:la.length=lb.length
 ·generalize hr:decide (la=lb)=r;have HR:Hid (decide (la.drop 0=lb.drop 0)=r):=hr;clear hr;have hlen':((la.length:Int) != (lb.length:Int))=false:=by simp;omega
  have HHL:=Ac hlen;clear hlen;go_enter Tryz.func65,Tryz.ntmps65;go_wp2
  go_loopw [5] (fun v wr=>∃ k:Nat,k≤la.length∧v=.int .i64 (k:Int)∧Hid (decide (la.drop k=lb.drop k)=r)∧Below w.heap.size w wr)
   (fun v _=>la.length-(intOf v).toNat)
  case atStart=>exact⟨0,by omega,rfl,HR,Below.refl _ _⟩
  case round =>
   clear HR;obtain⟨k,hk,rfl,HR,hB⟩:=hrel;by_cases hkn:k<la.length
   ·have hkn2:k<lb.length:=by have:=Aa HHL;omega
    obtain⟨g,o,hg,hglt,u0⟩:=(Aa HA).below hB k hkn;obtain⟨g2,o2,hg2,hglt2,v0⟩:=(Aa HB).below hB k hkn2;have hr:=Aa HR;rw[Jm hkn hkn2]at hr;rw[show la.getD k 0=la[k] by simp[List.getD_eq_getElem?_getD,hkn]]at u0;rw[show lb.getD k 0=lb[k] by simp[List.getD_eq_getElem?_getD,hkn2]]at v0;generalize la[k]=x at *;generalize lb[k]=y at *;have kb1:(k:Int)<(la.length:Int):=by omega
    have kb2:(k:Int)<(lb.length:Int):=by omega
    have HRR:=Ac hr;clear hr HR;subst hg hg2;by_cases hxy:x=y
    ·subst hxy;have HF:Hid (decide (la.drop (k+1)=lb.drop (k+1))=r):=by unfold Hid;rw[← Aa HRR];simp
     clear HRR;go_wp2
     go_quiet (fail)
     go_wp2
     go_roundw
     case rel=>exact⟨k+1,by omega,by go_num,HF,Ba hB⟩
     case measure=>simp[intOf];omega
    ·have hr2:r=false:=by rw[← Aa HRR];simp[hxy]
     have HF:=Ac hr2;have hxy':(x != y)=true:=by simpa using hxy
     clear HRR hr2;go_wp2
     go_quiet (fail)
     go_wp2;go_ret;exact⟨by rw[Aa HF];rfl,Ba hB⟩
   ·have hr2:r=true:=by
     rw[← Aa HR,List.drop_eq_nil_of_le (by omega),List.drop_eq_nil_of_le (by have:=Aa HHL;omega)];rfl
    have HF:=Ac hr2;have kb1:¬ (k:Int)<(la.length:Int):=by omega
    clear hr2 HR;go_wp2;go_ret;exact⟨by rw[Aa HF];rfl,hB⟩
 ·have hlen':((la.length:Int) != (lb.length:Int))=true:=by simp;omega
  have hne:decide (la=lb)=false:=by
   simp only[decide_eq_false_iff_not];intro h;exact hlen (by rw[h])
  rw[hne];go_enter Tryz.func65,Tryz.ntmps65;go_wp2;go_ret;exact⟨rfl,Below.refl _ _⟩
theorem X7 (la:List Int) (st va sp:Int) (xa a2:Option Addr) (xc c2:Nat) (w:World) (ha:IntR w xa la) (hb:IntR w a2 la) (hl:la.length≤100000) :
  Calls Tryz.prog 43 #[.agg #[.slice xa la.length xc,.int .i64 st,.int .i64 va,.int .i64 sp],.slice a2 la.length c2,.int .i64 st,.int .i64 va,.int .i64 sp] w fun e w'=>e=.returned (.bool true)∧Below w.heap.size w w':=by
 have hB0:=(Below.refl w.heap.size w).alloc (Nat.le_refl _) (O27 xa la.length xc st va sp);have C0:(w.alloc (O27 xa la.length xc st va sp)).heap[w.heap.size]?=some (O27 xa la.length xc st va sp):=Ad w (O27 xa la.length xc st va sp);have hS:=Zb la la xa a2 xc c2 _ (ha.below hB0) (hb.below hB0) hl hl;rw[decide_eq_true (rfl:la=la)]at hS;have HS:=Ac hS;clear hS;clear ha hb;go_enter Tryz.func43,Tryz.ntmps43;go_wp2_with fail
 refine(Aa HS).mono ?_;rintro e w1 ⟨rfl,hb1⟩;have hB1:=QB hB0 hb1;have C1:=stay hb1 C0;have s1:=(Ab C1 1).trans (show _=some (.int .i64 st) from rfl);have s2:=(Ab C1 2).trans (show _=some (.int .i64 va) from rfl);have s3:=(Ab C1 3).trans (show _=some (.int .i64 sp) from rfl);clear HS C0 C1;go_wp2;go_ret;exact⟨rfl,hB1⟩
def Kr.pk (c n:Int):Int:=if c<0 then (-(c+1)) % n else c % n
theorem Xk (c n:Int) (hn:0<n):0≤Kr.pk c n∧Kr.pk c n<n:=by
 unfold Kr.pk
 split
 ·exact⟨Int.emod_nonneg _ (by omega),Int.emod_lt_of_pos _ hn⟩
 ·exact⟨Int.emod_nonneg _ (by omega),Int.emod_lt_of_pos _ hn⟩
theorem Yo (c n:Int) (w:World) (hc0:-9223372036854775808≤c) (hc1:c≤9223372036854775807) (hn:0<n) (hn1:n≤1000000) :
  Calls Tryz.prog 16 #[.int .i64 c,.int .i64 n] w fun e w'=>e=.returned (.int .i64 (Kr.pk c n))∧w'=w:=by
 unfold Kr.pk;by_cases h:c<0
 ·rw[if_pos h];go_enter Tryz.func16,Tryz.ntmps16;go_wp2;go_ret;exact⟨Ut (by rw[← Int.neg_tmod,Int.tmod_eq_emod_of_nonneg (by omega)]),rfl⟩
 ·rw[if_neg h];go_enter Tryz.func16,Tryz.ntmps16;go_wp2;go_ret;exact⟨rfl,rfl⟩
theorem Xx (s:ByteArray) (ins out:List Int) (h d f st va sp:Int) (ia oa:Option Addr) (ic oc:Nat) (w:World) (hs:s.size≤maxLen) (hl:ins.length≤maxLen) (hi:IntR w ia ins) (ho:IntR w oa out) (hol:out.length≤100000)
  (hQ:Mc.runOf s.data.toList 0 ins h d f=⟨out,st,va,sp,0⟩) :
  Calls Tryz.prog 33 #[.string s,.slice ia ins.length ic,.int .i64 h,.int .i64 d,.int .i64 f,.slice oa out.length oc,.int .i64 st,.int .i64 va,.int .i64 sp] w fun e w'=>e=.returned (.bool true)∧Below w.heap.size w w':=by
 have HR:=Ac (Acr s 0 ins h d f ia ic w hs hl hi _ hQ);have HO:=Ac ho;clear hi ho hQ;go_enter Tryz.func33,Tryz.ntmps33;go_wp2_with fail
 refine(Aa HR).mono ?_;rintro e w1 ⟨xa,xc,rfl,hout,hb1⟩;have hB2:=hb1.alloc hb1.size (O27 xa out.length xc st va sp);have hB12:=(Below.refl w1.heap.size w1).alloc (Nat.le_refl _) (O27 xa out.length xc st va sp);have HE:=Ac (X7 out st va sp xa oa xc oc _ ((IntR.of_ints hout).below hB12) ((Aa HO).below hB2) hol);clear HR HO hout;go_wp2_with fail
 refine(Aa HE).mono ?_;rintro e w2 ⟨rfl,hb2⟩;have hB3:=QB hB2 hb2;go_wp2;go_ret;exact⟨rfl,hB3⟩
open Go.ChangeShapes Go.WideShapes Go.ChangeAt Go.RowKit Go.Deep Go.Joins
theorem Tryz.cellsKI:Tryz.prog.cellsOf 3=1:=by kernel_rfl
section
variable {H:Type}{enc:TypeId × Value→H}
theorem Mn {W:World}{n:Nat}{c:Value}{x:DataW H × List MemPlace} (h:DataW.trod enc Tryz.prog W 0 (fun _=>true) true n 26 [c]=some x) :
  ∃ (a:Option Addr) (ic:Nat) (ins:List Int),c=.slice a ins.length ic∧ins.length≤maxLen∧IntR W a ins∧∀ n∈ins,-9223372036854775808≤n∧n≤9223372036854775807:=by
 rcases open_ints Tryz.underlying26 Tryz.underlying3 Tryz.cellsKI h with ⟨hc,_⟩|⟨a,len,cap,zs,hc,_,hl,hm,hz,_,hcell,hwz⟩
 ·simp only[List.cons.injEq,and_true]at hc;exact⟨none,0,[],hc,by simp,IntR.nil _ _,by simp⟩
 ·simp only[List.cons.injEq,and_true]at hc;subst hc;have hz':zs.length=cap:=by simpa using hz
  have hlen:(zs.take len).length=len:=by rw[List.length_take];omega
  refine⟨some a,cap,zs.take len,by rw[hlen],by rw[hlen];omega,fun i hi=>?_,fun n hn=>bounds_i64 (hwz n (List.mem_of_mem_take hn))⟩;rw[hlen]at hi;obtain⟨b,off,spot⟩:=a;have hc1:=hcell 0 (by omega);have hspot:spot=none:=by simpa[Addr.add] using World.cell?_spot hc1
  subst hspot;have hadd:(⟨b,off,none⟩:Addr).add i=⟨b,off+i,none⟩:=by unfold Addr.add;split<;>simp_all
  have hc0:W.cell? ⟨b,off+i,none⟩=some (.int .i64 (zs.getD i 0)):=by rw[← hadd];exact hcell i (by omega)
  refine⟨b,off,rfl,World.block_lt_of_cell? W _ hc0,?_⟩;rw[hc0];simp[List.getD_eq_getElem?_getD,hi]
end
end Go.Proofs.YtpcgnjolfahacaaGreat
