/- a part of the proof -/
import Derived.Test.YtcefiamkoincoaaGreatPk00
set_option maxRecDepth 100000
set_option maxHeartbeats 40000000
set_option linter.unusedVariables false
set_option linter.unusedSimpArgs false
namespace Go.Proofs.YtcefiamkoincoaaGreat
open Go.RowKit
theorem Aw {w:World}{k:Nat}{o:Obj} (h:w.heap[k]?=some o) {p:Addr} (hp:k≠p.block) (u:Value):(w.setCell p u).heap[k]?=some o:=by
 rw[Below.heap_setCell _ _ _ _ hp];exact h
theorem Ra (s:ByteArray) (B:Nat) (t:Rd.St) (w:World) (hs:s.size≤maxLen) (hR:RdAt w B s t) :
  Calls Tryz.prog 115 #[.pointer (some ⟨B,0,none⟩)] w fun e w' =>
   ∃ a1 m1 d1 a2 m2 d2 a3 m3 d3 a4 m4 d4,e=.returned (.agg #[.int .i64 (Rd.mth s.data.toList t).1.cl,.int .i64 (Rd.mth s.data.toList t).1.name,.slice a1 m1 d1,.int .i64 (Rd.mth s.data.toList t).1.result.1,.int .i64 (Rd.mth s.data.toList t).1.result.2,.int .i64 (Rd.mth s.data.toList t).1.locals,.int .i64 (Rd.mth s.data.toList t).1.stack,.slice a2 m2 d2,.slice a3 m3 d3,.slice a4 m4 d4]) ∧
    MthIn w' w.heap.size (Rd.mth s.data.toList t).1 ⟨.slice a1 m1 d1,.slice a2 m2 d2,.slice a3 m3 d3,.slice a4 m4 d4⟩∧RdAt w' B s (Rd.mth s.data.toList t).2∧Gr B w w':=by
 have hlt:=hR.lt;unfold Rd.mth;dsimp only;generalize hq1:Rd.nx s.data.toList t=q1;generalize hq2:Rd.nx s.data.toList q1.2=q2;generalize hq3:Rd.cn s.data.toList 0 4 q2.2=q3;generalize hq4:Rd.tys s.data.toList q3.1.toNat q3.2=q4;generalize hq5:Rd.ty s.data.toList q4.2=q5;generalize hq6:Rd.cn s.data.toList 0 8 q5.2=q6;generalize hq7:Rd.cn s.data.toList 0 8 q6.2=q7;generalize hq8:Rd.codes s.data.toList q7.2=q8;generalize hq9:Rd.hnds s.data.toList q8.2=q9;generalize hq10:Rd.mps s.data.toList q6.1 q7.1 q9.2=q10;have l4:q4.1.length=q3.1.toNat:=by rw[← hq4];exact tys_len _ _ _
 have b3:=Rd.cn_bd s.data.toList 0 4 q2.2 (by omega);have b6:=Rd.cn_bd s.data.toList 0 8 q5.2 (by omega);have b7:=Rd.cn_bd s.data.toList 0 8 q6.2 (by omega);rw[hq3]at b3;rw[hq6]at b6;rw[hq7]at b7;obtain⟨b30,b31⟩:=b3;obtain⟨b60,b61⟩:=b6;obtain⟨b70,b71⟩:=b7;have HL4:=Ac l4;have Q1:=Ac hq1;have Q2:=Ac hq2;have Q3:=Ac hq3;have Q4:=Ac hq4;have Q5:=Ac hq5;have Q6:=Ac hq6;have Q7:=Ac hq7;have Q8:=Ac hq8;have Q9:=Ac hq9;have Q10:=Ac hq10;clear hq1 hq2 hq3 hq4 hq5 hq6 hq7 hq8 hq9 hq10 l4;have n1:w.heap.size+1≠B:=by omega
 have n0:w.heap.size≠B:=by omega
 go_enter Tryz.func115,Tryz.ntmps115;go_wp2_with fail
 refine(Bq s B t _ hs ((hR.alloc _).alloc _)).mono ?_;rw[Aa Q1];rintro e w1 ⟨rfl,hR1,hg1⟩;have G1:=(((Gr.refl B w).alloc _).alloc _).trans hg1;have B1:=hg1.own (Ag w _ _) n1;have C1:=hg1.own (Ah w _ _) n0;have S1:=hg1.size;simp at S1;have c0:=Ab B1 0;have f0:=Ae B1 0;simp at c0;go_wp2_with fail
 clear c0 f0;refine(Bq s B q1.2 _ hs (hR1.set (by simp;omega) _)).mono ?_;rw[Aa Q2];rintro e w2 ⟨rfl,hR2,hg2⟩;have G2:=(G1.set (.inl (by simp)) _).trans hg2;have B2:=hg2.own (Ai (i:=0) B1 (.int .i64 q1.1)) n1;have C2:=hg2.own (Aw C1 (p:=⟨w.heap.size+1,0,none⟩) (by simp) (.int .i64 q1.1)) n0;simp at B2;have S2:=G2.size;have c1:=Ab B2 1;have f1:=Ae B2 1;simp at c1;go_wp2_with fail
 clear c1 f1;refine(Ce s B 0 4 q2.2 _ hs (hR2.set (by simp;omega) _)).mono ?_;rw[Aa Q3];rintro e w3 ⟨rfl,hR3,hg3⟩;have G3:=(G2.set (.inl (by simp)) _).trans hg3;have B3:=hg3.own (Ai (i:=1) B2 (.int .i64 q2.1)) n1;have C3:=hg3.own (Aw C2 (p:=⟨w.heap.size+1,1,none⟩) (by simp) (.int .i64 q2.1)) n0;simp at B3;have S3:=G3.size;go_wp2_with fail
 refine(Gp s B q3.1 q3.2 _ hs b30 (by omega) hR3).mono ?_;rw[Aa Q4];rintro e w4 ⟨v4,rfl,ho4,hR4,hg4⟩;have G4:=G3.trans hg4;have B4:=hg4.own B3 n1;have C4:=hg4.own C3 n0;have S4:=G4.size;obtain⟨a4,d4,rfl⟩:=Af ho4;have T4:TysAt w4 w.heap.size (.slice a4 q3.1.toNat d4) q4.1:=by
  unfold TysAt;rw[Aa HL4];exact Ba ho4 (by omega)
 clear ho4;have c2:=Ab B4 2;have f2:=Ae B4 2;simp at c2;have T4:=T4.kp (Kp.set (i:=2) B4 (.slice a4 q3.1.toNat d4)) (by decide);go_wp2_with fail
 clear c2 f2;refine(Jn s B q4.2 _ hs (hR4.set (by simp;omega) _)).mono ?_;rw[Aa Q5];rintro e w5 ⟨rfl,hR5,hg5⟩;have G5:=(G4.set (.inl (by simp)) _).trans hg5;have B5:=hg5.own (Ai (i:=2) B4 (.slice a4 q3.1.toNat d4)) n1;have C5:=hg5.own (Aw C4 (p:=⟨w.heap.size+1,2,none⟩) (by simp) (.slice a4 q3.1.toNat d4)) n0;simp at B5;have S5:=G5.size;have T4:=(T4).kp (Kp.of_gr (e:=none) hg5 hlt) (by decide);have c3:=Ab B5 3;have f3:=Ae B5 3;simp at c3;have c4:=Ab B5 4;have f4:=Ae B5 4;simp at c4;have T4:=T4.kp (Kp.set (i:=3) B5 (.int .i64 q5.1.1)) (by decide);have T4:=T4.kp (Kp.set (i:=4) (Ai (i:=3) B5 (.int .i64 q5.1.1)) (.int .i64 q5.1.2)) (by decide);go_wp2_with fail
 clear c3 f3 c4 f4;refine(Ce s B 0 8 q5.2 _ hs ((hR5.set (by simp;omega) _).set (by simp;omega) _)).mono ?_;rw[Aa Q6];rintro e w6 ⟨rfl,hR6,hg6⟩;have G6:=((G5.set (.inl (by simp)) _).set (.inl (by simp)) _).trans hg6;have B6:=hg6.own (Ai (i:=4) (Ai (i:=3) B5 (.int .i64 q5.1.1)) (.int .i64 q5.1.2)) n1;have C6:=hg6.own (Aw (Aw C5 (p:=⟨w.heap.size+1,3,none⟩) (by simp) (.int .i64 q5.1.1)) (p:=⟨w.heap.size+1,4,none⟩) (by simp) (.int .i64 q5.1.2)) n0;simp at B6;have S6:=G6.size;have T4:=(T4).kp (Kp.of_gr (e:=none) hg6 hlt) (by decide);have c5:=Ab B6 5;have f5:=Ae B6 5;simp at c5;have T4:=T4.kp (Kp.set (i:=5) B6 (.int .i64 q6.1)) (by decide);go_wp2_with fail
 clear c5 f5;refine(Ce s B 0 8 q6.2 _ hs (hR6.set (by simp;omega) _)).mono ?_;rw[Aa Q7];rintro e w7 ⟨rfl,hR7,hg7⟩;have G7:=(G6.set (.inl (by simp)) _).trans hg7;have B7:=hg7.own (Ai (i:=5) B6 (.int .i64 q6.1)) n1;have C7:=hg7.own (Aw C6 (p:=⟨w.heap.size+1,5,none⟩) (by simp) (.int .i64 q6.1)) n0;simp at B7;have S7:=G7.size;have T4:=(T4).kp (Kp.of_gr (e:=none) hg7 hlt) (by decide);have c6:=Ab B7 6;have f6:=Ae B7 6;simp at c6;have T4:=T4.kp (Kp.set (i:=6) B7 (.int .i64 q7.1)) (by decide);go_wp2_with fail
 clear c6 f6;refine(We s B q7.2 _ hs (hR7.set (by simp;omega) _)).mono ?_;rw[Aa Q8];rintro e w8 ⟨v8,rfl,ho8,hR8,hg8⟩;have G8:=(G7.set (.inl (by simp)) _).trans hg8;have B8:=hg8.own (Ai (i:=6) B7 (.int .i64 q7.1)) n1;have C8:=hg8.own (Aw C7 (p:=⟨w.heap.size+1,6,none⟩) (by simp) (.int .i64 q7.1)) n0;simp at B8;have S8:=G8.size;obtain⟨a8,d8,rfl⟩:=Af ho8;have T8:=ho8.mono (b':=w.heap.size) (by simp;omega);clear ho8;have T4:=(T4).kp (Kp.of_gr (e:=none) hg8 hlt) (by decide);have c7:=Ab B8 7;have f7:=Ae B8 7;simp at c7;have T4:=T4.kp (Kp.set (i:=7) B8 (.slice a8 q8.1.length d8)) (by decide);have T8:=T8.kp (Kp.set (i:=7) B8 (.slice a8 q8.1.length d8)) (by decide);go_wp2_with fail
 clear c7 f7;refine(Oi s B q8.2 _ hs (hR8.set (by simp;omega) _)).mono ?_;rw[Aa Q9];rintro e w9 ⟨v9,rfl,ho9,hR9,hg9⟩;have G9:=(G8.set (.inl (by simp)) _).trans hg9;have B9:=hg9.own (Ai (i:=7) B8 (.slice a8 q8.1.length d8)) n1;have C9:=hg9.own (Aw C8 (p:=⟨w.heap.size+1,7,none⟩) (by simp) (.slice a8 q8.1.length d8)) n0;simp at B9;have S9:=G9.size;obtain⟨a9,d9,rfl⟩:=Af ho9;have T9:=ho9.mono (b':=w.heap.size) (by simp;omega);clear ho9;have T4:=(T4).kp (Kp.of_gr (e:=none) hg9 hlt) (by decide);have T8:=(T8).kp (Kp.of_gr (e:=none) hg9 hlt) (by decide);have c8:=Ab B9 8;have f8:=Ae B9 8;simp at c8;have T4:=T4.kp (Kp.set (i:=8) B9 (.slice a9 q9.1.length d9)) (by decide);have T8:=T8.kp (Kp.set (i:=8) B9 (.slice a9 q9.1.length d9)) (by decide);have T9:=T9.kp (Kp.set (i:=8) B9 (.slice a9 q9.1.length d9)) (by decide);have c5:=Ab B9 5;have c6:=Ab B9 6;simp at c5 c6;go_wp2_with fail
 clear c8 f8 c5 c6;refine(Wt s B q6.1 q7.1 q9.2 _ hs b60 b61 b70 b71 (hR9.set (by simp;omega) _)).mono ?_;rw[Aa Q10];rintro e w10 ⟨v10,l10,rfl,hl10,ho10,hR10,hg10⟩;have G10:=(G9.set (.inl (by simp)) _).trans hg10;have B10:=hg10.own (Ai (i:=8) B9 (.slice a9 q9.1.length d9)) n1;have C10:=hg10.own (Aw C9 (p:=⟨w.heap.size+1,8,none⟩) (by simp) (.slice a9 q9.1.length d9)) n0;simp at B10;have S10:=G10.size;obtain⟨a10,d10,rfl⟩:=Af ho10.1;have T10:=ho10.mono (b':=w.heap.size) (by simp;omega);clear ho10;have T4:=(T4).kp (Kp.of_gr (e:=none) hg10 hlt) (by decide);have T8:=(T8).kp (Kp.of_gr (e:=none) hg10 hlt) (by decide);have T9:=(T9).kp (Kp.of_gr (e:=none) hg10 hlt) (by decide);have c9:=Ab B10 9;have f9:=Ae B10 9;simp at c9;obtain⟨c0,c1,c2,c3,c4,c5,c6,c7,c8⟩:=cl9 B10;simp at c0 c1 c2 c3 c4 c5 c6 c7 c8;have z0:=Ab C10 0;have g0:=Ae C10 0;have z1:=Ab C10 1;have g1:=Ae C10 1;have z2:=Ab C10 2;have g2:=Ae C10 2;have z3:=Ab C10 3;have g3:=Ae C10 3;have z4:=Ab C10 4;have g4:=Ae C10 4;have z5:=Ab C10 5;have g5:=Ae C10 5;have z6:=Ab C10 6;have g6:=Ae C10 6;have z7:=Ab C10 7;have g7:=Ae C10 7;have z8:=Ab C10 8;have g8:=Ae C10 8;have z9:=Ab C10 9;have g9:=Ae C10 9;simp at z0 z1 z2 z3 z4 z5 z6 z7 z8 z9;have K10:=Kp.set (b:=w.heap.size) (i:=9) B10 (.slice a10 l10.length d10);have T4:=T4.kp K10 (by decide);have T8:=T8.kp K10 (by decide);have T9:=T9.kp K10 (by decide);have T10:=T10.kp K10 (by decide) (by decide);go_wp2_with fail
 refine bodyPost_ret (v:=.agg #[.int .i64 q1.1,.int .i64 q2.1,.slice a4 q3.1.toNat d4,.int .i64 q5.1.1,.int .i64 q5.1.2,.int .i64 q6.1,.int .i64 q7.1,.slice a8 q8.1.length d8,.slice a9 q9.1.length d9,.slice a10 l10.length d10]) (by simp[results,Tryz.results115,go_sem,z0,z1,z2,z3,z4,z5,z6,z7,z8,z9]) rfl ?_;refine⟨_,_,_,_,_,_,_,_,_,_,_,_,rfl,?_,?_,?_⟩;have E0:=(Aw C10 (p:=⟨w.heap.size+1,9,none⟩) (by simp) (.slice a10 l10.length d10));have F0:=Kp.set (b:=w.heap.size) (i:=0) E0 (.int .i64 q1.1);have E1:=Ai (i:=0) E0 (.int .i64 q1.1);have F1:=F0.trans (Kp.set (b:=w.heap.size) (i:=1) E1 (.int .i64 q2.1));have E2:=Ai (i:=1) E1 (.int .i64 q2.1);have F2:=F1.trans (Kp.set (b:=w.heap.size) (i:=2) E2 (.slice a4 q3.1.toNat d4));have E3:=Ai (i:=2) E2 (.slice a4 q3.1.toNat d4);have F3:=F2.trans (Kp.set (b:=w.heap.size) (i:=3) E3 (.int .i64 q5.1.1));have E4:=Ai (i:=3) E3 (.int .i64 q5.1.1);have F4:=F3.trans (Kp.set (b:=w.heap.size) (i:=4) E4 (.int .i64 q5.1.2));have E5:=Ai (i:=4) E4 (.int .i64 q5.1.2);have F5:=F4.trans (Kp.set (b:=w.heap.size) (i:=5) E5 (.int .i64 q6.1));have E6:=Ai (i:=5) E5 (.int .i64 q6.1);have F6:=F5.trans (Kp.set (b:=w.heap.size) (i:=6) E6 (.int .i64 q7.1));have E7:=Ai (i:=6) E6 (.int .i64 q7.1);have F7:=F6.trans (Kp.set (b:=w.heap.size) (i:=7) E7 (.slice a8 q8.1.length d8));have E8:=Ai (i:=7) E7 (.slice a8 q8.1.length d8);have F8:=F7.trans (Kp.set (b:=w.heap.size) (i:=8) E8 (.slice a9 q9.1.length d9));have E9:=Ai (i:=8) E8 (.slice a9 q9.1.length d9);have F9:=F8.trans (Kp.set (b:=w.heap.size) (i:=9) E9 (.slice a10 l10.length d10))
 ·exact⟨T4.kp F9 (by decide),T8.kp F9 (by decide),T9.kp F9 (by decide),l10,hl10,T10.kp F9 (by decide) (by decide)⟩
 ·exact(((((((((((hR10.set (by simp;omega) _).set (by simp;omega) _).set (by simp;omega) _).set (by simp;omega) _).set (by simp;omega) _).set (by simp;omega) _).set (by simp;omega) _).set (by simp;omega) _).set (by simp;omega) _).set (by simp;omega) _).set (by simp;omega) _)
 ·exact(((((((((((G10.set (.inl (by simp)) _).set (.inl (by simp)) _).set (.inl (by simp)) _).set (.inl (by simp)) _).set (.inl (by simp)) _).set (.inl (by simp)) _).set (.inl (by simp)) _).set (.inl (by simp)) _).set (.inl (by simp)) _).set (.inl (by simp)) _).set (.inl (by simp)) _)
theorem Tryz.infoClass:(Tryz.prog.info? 102).map (fun i=>(i.zero,i.size,i.bytes))=some (some (.agg #[.int .i64 0,.slice none 0 0]),2,32):=by kernel_rfl
theorem Tryz.infoMethod:(Tryz.prog.info? 94).map (fun i=>(i.zero,i.size,i.bytes))=some (some (.agg #[.int .i64 0,.int .i64 0,.slice none 0 0,.int .i64 0,.int .i64 0,.int .i64 0,.int .i64 0,.slice none 0 0,.slice none 0 0,.slice none 0 0]),10,144):=by kernel_rfl
theorem Jw (s:ByteArray) (B:Nat) (t:Rd.St) (w:World) (hs:s.size≤maxLen) (hR:RdAt w B s t) :
  Calls Tryz.prog 72 #[.pointer (some ⟨B,0,none⟩)] w fun e w' =>
   ∃ a1 n1 c1 a2 n2 c2 l1 l2,e=.returned (.agg #[.slice a1 n1 c1,.slice a2 n2 c2])∧l1.map Prod.fst=(Rd.fil s.data.toList t).1.classes∧ClssIn w' w.heap.size (.slice a1 n1 c1) l1 ∧
    l2.map Prod.fst=(Rd.fil s.data.toList t).1.methods∧MthsIn w' w.heap.size (.slice a2 n2 c2) l2∧RdAt w' B s (Rd.fil s.data.toList t).2∧Gr B w w':=by
 have hlt:=hR.lt;obtain⟨i0,hi,hz0,hz1,hz2⟩:=info_parts Tryz.infoClass;obtain⟨j0,hj,hy0,hy1,hy2⟩:=info_parts Tryz.infoMethod;unfold Rd.fil;dsimp only;generalize hq1:Rd.ex s.data.toList 83 t=q1;generalize hq2:Rd.ex s.data.toList 77 q1=q2;generalize hq3:Rd.cn s.data.toList 0 6 q2=q3;generalize hq4:Rd.rep (Rd.cls s.data.toList) q3.1.toNat q3.2=q4;generalize hq5:Rd.cn s.data.toList 1 6 q4.2=q5;have b3:=Rd.cn_bd s.data.toList 0 6 q2 (by omega);rw[hq3]at b3;obtain⟨b30,b31⟩:=b3;have b5:=Rd.cn_bd s.data.toList 1 6 q4.2 (by omega);rw[hq5]at b5;obtain⟨b50,b51⟩:=b5;have Q4:=Ac hq4;have Q5:=Ac hq5;have Q1:=Ac hq1;have Q2:=Ac hq2;have Q3:=Ac hq3;clear hq1 hq2 hq3 hq4 hq5;have n1:w.heap.size+1≠B:=by omega
 have n0:w.heap.size≠B:=by omega
 go_enter Tryz.func72,Tryz.ntmps72;go_wp2_with fail
 refine(Ke s B 83 t _ hs ((hR.alloc _).alloc _)).mono ?_;rw[Aa Q1];rintro e w1 ⟨rfl,hR1,hg1⟩;have G1:=(((Gr.refl B w).alloc _).alloc _).trans hg1;have B1:=hg1.own (Ag w _ _) n1;have C1:=hg1.own (Ah w _ _) n0;go_wp2_with fail
 refine(Ke s B 77 q1 _ hs hR1).mono ?_;rw[Aa Q2];rintro e w2 ⟨rfl,hR2,hg2⟩;have G2:=G1.trans hg2;have B2:=hg2.own B1 n1;have C2:=hg2.own C1 n0;go_wp2_with fail
 refine(Ce s B 0 6 q2 _ hs hR2).mono ?_;rw[Aa Q3];rintro e w3 ⟨rfl,hR3,hg3⟩;have G3:=G2.trans hg3;have B3:=hg3.own B2 n1;have C3:=hg3.own C2 n0;clear G1 G2 B1 B2 C1 C2 hg1 hg2 hg3 hR1 hR2;go_wp2
 go_loopw [5] (fun i wr=>∃ (k:Nat) (l:List (Rd.Cls × Value)) (v:Value),(k:Int)≤q3.1∧i=.int .i64 k∧l.length=k∧l.map Prod.fst=(Rd.rep (Rd.cls s.data.toList) k q3.2).1∧ClssIn wr w.heap.size v l ∧
   wr.heap[w.heap.size+1]?=some (.cells #[v,.slice none 0 0] 63 (0,0))∧wr.heap[w.heap.size]?=some (O1 none 0 0 none 0 0) ∧
   RdAt wr B s (Rd.rep (Rd.cls s.data.toList) k q3.2).2∧Gr B w wr)
  (fun i _=>q3.1.toNat-(intOf i).toNat)
 case atStart=>exact⟨0,[],_,by omega,rfl,rfl,rfl,⟨World.ownsRow_nil _ _ _ _,by simp⟩,B3,C3,hR3,G3⟩
 case round =>
  obtain⟨k,l,v,hk,rfl,hlen,hmap,hcs,hB,hC,hRr,hgr⟩:=hrel;have hsz:=hgr.size;by_cases hkn:(k:Int)<q3.1
  ·generalize hp:Rd.rep (Rd.cls s.data.toList) k q3.2=p at *;generalize hq:Rd.cls s.data.toList p.2=q;have HP:=Ac hp;have HQ:=Ac hq;have HLen:=Ac hlen;have HMap:=Ac hmap;clear hp hq hlen hmap;go_wp2_with fail
   refine(Uw s B p.2 _ hs hRr).mono ?_;rw[Aa HQ];rintro e w4 ⟨u,rfl,ht,hR4,hg4⟩;obtain⟨ua,uc,rfl⟩:=Af ht;have hB4:=hg4.own hB n1;have hC4:=hg4.own hC n0;have G4:=hgr.trans hg4;have hsz4:=G4.size;obtain⟨va,vc,rfl⟩:=Af hcs.1;have hcs4:=hcs.kp (Kp.of_gr (e:=none) hg4 hlt) (by decide) (by decide);have ht4:=ht.mono hsz;have x0:=Ab hB4 0;have f0:=Ae hB4 0;have hlt1:=lt_of_block hB4;have HCs:=Ac hcs4.2;have hown:=hcs4.1;simp at x0;clear ht hcs hcs4;go_wp2_with (at_builtin;refine wpList_append_own _ rfl _ _ 60 rfl w.heap.size 102 i0 _ 2 32 Tryz.underlying60 hi hz0 hz1 hz2 rfl (by decide) _ _ _ rfl ((hown.alloc _).alloc _) ⟨w4.heap.size+1,0,none⟩ 1 1 [.int .i64 q.1.above,.slice ua q.1.fields.length uc] rfl rfl ?c1 ?c2 ?c3 ?c4 ?c5 ?_)
   case c1=>exact Au _ _ _ _ (by simp)
   case c2=>intro u hu;simp at hu;rcases hu with rfl | rfl<;>rfl
   case c3=>have:=Aa HLen;unfold maxLen;omega
   case c4=>have:=Aa HLen;omega
   case c5=>simp;omega
   intro v' w5 hown2 hgrow _;obtain⟨va',vc',rfl⟩:=Af hown2;have hR5:=((hR4.alloc _).alloc _).grown hgrow (Hf hown hlt);have hG5:=((G4.alloc _).alloc _).grown hgrow (Gz hown);have hK:=((Kp.alloc (e:=some 102) (b:=0) _ _).trans (Kp.alloc _ _)).trans (Kp.of_grown hgrow ((hown.alloc _).alloc _));have hB5:=hK _ _ _ (Nat.zero_le _) hB4 (by decide);have hC5:=hK _ _ _ (Nat.zero_le _) hC4 (by decide);have x1:=Ab hB5 0;have f1:=Ae hB5 0;simp at x1;have hK':Kp (some 102) w.heap.size w4 w5:=fun k cs t _ hc ht=>hK k cs t (Nat.zero_le _) hc ht;have hcs5:ClssIn (w5.setCell ⟨w.heap.size+1,0,none⟩ (.slice va' (l.length+1) vc')) w.heap.size (.slice va' (l.length+1) vc') (l++[(q.1,.slice ua q.1.fields.length uc)]):=by
    have hset:=Kp.set (b:=w.heap.size) (i:=0) hB5 (.slice va' (l.length+1) vc');refine⟨?_,?_⟩
    ·rw[Jc,List.length_append];exact Av hown2 hset (by decide)
    ·intro p hp;rw[List.mem_append]at hp;rcases hp with hp | hp
     ·exact((Aa HCs p hp).kp hK' (by decide)).kp hset (by decide)
     ·simp only[List.mem_singleton]at hp;subst hp;exact(ht4.kp hK' (by decide)).kp hset (by decide)
   have e1:(Rd.rep (Rd.cls s.data.toList) (k+1) q3.2)=(p.1++[q.1],q.2):=by simp only[Rd.rep,Aa HP,Aa HQ]
   have HE:=Ac e1;have HB:=Ai (i:=0) hB5 (.slice va' (l.length+1) vc');have HC:=Aw hC5 (p:=⟨w.heap.size+1,0,none⟩) (by simp) (.slice va' (l.length+1) vc');have HK:=Ac hK;have HK':=Ac hK';clear e1 hgrow hown hown2 hRr hR4 hg4 G4 hgr x0 f0 hK hK' ht4 hB hC hB4 hC4;go_wp2
   go_roundw
   case rel=>exact⟨k+1,_,_,by omega,by go_num,by rw[List.length_append,Aa HLen];rfl,by rw[Aa HE,List.map_append,Aa HMap];rfl,hcs5,HB,HC,by rw[Aa HE];exact hR5.set (by simp;omega) _,hG5.set (.inl (by simp)) _⟩
   case measure=>simp[intOf];omega
  ·have e:k=q3.1.toNat:=by omega
   subst e;clear hR3 G3 B3 C3;rw[Aa Q4]at hmap hRr;have HMap:=Ac hmap;clear hmap hlen;obtain⟨va,vc,rfl⟩:=Af hcs.1;go_wp2_with fail
   refine(Ce s B 1 6 q4.2 _ hs hRr).mono ?_;rw[Aa Q5];rintro e w4 ⟨rfl,hR4,hg4⟩;have G4:=hgr.trans hg4;have B4:=hg4.own hB n1;have C4:=hg4.own hC n0;have hcs4:=hcs.kp (Kp.of_gr (e:=none) hg4 hlt) (by decide) (by decide);clear hB hC hcs hgr hg4 hRr hk hsz;go_wp2
   go_loopw [8] (fun i wr=>∃ (k:Nat) (m:List (Rd.Mth × MthV)) (v:Value),(k:Int)≤q5.1∧i=.int .i64 k∧m.length=k∧m.map Prod.fst=(Rd.rep (Rd.mth s.data.toList) k q5.2).1∧MthsIn wr w.heap.size v m ∧
     ClssIn wr w.heap.size (.slice va l.length vc) l ∧
     wr.heap[w.heap.size+1]?=some (.cells #[.slice va l.length vc,v] 63 (0,0))∧wr.heap[w.heap.size]?=some (O1 none 0 0 none 0 0) ∧
     RdAt wr B s (Rd.rep (Rd.mth s.data.toList) k q5.2).2∧Gr B w wr)
    (fun i _=>q5.1.toNat-(intOf i).toNat)
   case atStart=>exact⟨0,[],_,by omega,rfl,rfl,rfl,⟨World.ownsRow_nil _ _ _ _,by simp⟩,hcs4,B4,C4,hR4,G4⟩
   case round =>
    clear hcs4 B4 C4 hR4 G4;obtain⟨k,m,v,hk,rfl,hlen,hmap,hms,hcs,hB,hC,hRr,hgr⟩:=hrel;have hsz:=hgr.size;by_cases hkn:(k:Int)<q5.1
    ·generalize hp:Rd.rep (Rd.mth s.data.toList) k q5.2=p at *;generalize hq:Rd.mth s.data.toList p.2=q;have HP:=Ac hp;have HQ:=Ac hq;have HLen:=Ac hlen;have HMap2:=Ac hmap;clear hp hq hlen hmap;obtain⟨vb,vd,rfl⟩:=Af hms.1;go_wp2_with fail
     refine(Ra s B p.2 _ hs hRr).mono ?_;rw[Aa HQ];rintro e w4 ⟨a1,m1,d1,a2,m2,d2,a3,m3,d3,a4,m4,d4,rfl,ht,hR4,hg4⟩;have hB4:=hg4.own hB n1;have hC4:=hg4.own hC n0;have G4:=hgr.trans hg4;have hsz4:=G4.size;have hms4:=hms.kp (Kp.of_gr (e:=none) hg4 hlt) (by decide) (by decide) (by decide) (by decide) (by decide);have hcs4:=hcs.kp (Kp.of_gr (e:=none) hg4 hlt) (by decide) (by decide);have ht4:=ht.mono hsz;have x0:=Ab hB4 1;have f0:=Ae hB4 1;have hlt1:=lt_of_block hB4;have HMs:=Ac hms4.2;have hown:=hms4.1;simp at x0;clear ht hms hms4 hcs;go_wp2_with (at_builtin;refine wpList_append_own _ rfl _ _ 61 rfl w.heap.size 94 j0 _ 10 144 Tryz.underlying61 hj hy0 hy1 hy2 rfl (by decide) _ _ _ rfl ((hown.alloc _).alloc _) ⟨w4.heap.size+1,0,none⟩ 1 1 (Cj q.1 ⟨.slice a1 m1 d1,.slice a2 m2 d2,.slice a3 m3 d3,.slice a4 m4 d4⟩) rfl rfl ?d1 ?d2 ?d3 ?d4 ?d5 ?_)
     case d1=>exact Au _ _ _ _ (by simp)
     case d2=>intro u hu;simp[Cj]at hu;rcases hu with rfl | rfl | rfl | rfl | rfl | rfl | rfl | rfl | rfl | rfl<;>rfl
     case d3=>have:=Aa HLen;unfold maxLen;omega
     case d4=>have:=Aa HLen;omega
     case d5=>simp;omega
     intro v' w5 hown2 hgrow _;obtain⟨va',vc',rfl⟩:=Af hown2;have hR5:=((hR4.alloc _).alloc _).grown hgrow (Hf hown hlt);have hG5:=((G4.alloc _).alloc _).grown hgrow (Gz hown);have hK:=((Kp.alloc (e:=some 94) (b:=0) _ _).trans (Kp.alloc _ _)).trans (Kp.of_grown hgrow ((hown.alloc _).alloc _));have hB5:=hK _ _ _ (Nat.zero_le _) hB4 (by decide);have hC5:=hK _ _ _ (Nat.zero_le _) hC4 (by decide);have x1:=Ab hB5 1;have f1:=Ae hB5 1;simp at x1;have hK':Kp (some 94) w.heap.size w4 w5:=fun k cs t _ hc ht=>hK k cs t (Nat.zero_le _) hc ht;have hset:=Kp.set (b:=w.heap.size) (i:=1) hB5 (.slice va' (m.length+1) vc');have hms5:MthsIn (w5.setCell ⟨w.heap.size+1,1,none⟩ (.slice va' (m.length+1) vc')) w.heap.size (.slice va' (m.length+1) vc') (m++[(q.1,⟨.slice a1 m1 d1,.slice a2 m2 d2,.slice a3 m3 d3,.slice a4 m4 d4⟩)]):=by
      refine⟨?_,?_⟩
      ·rw[Ig,List.length_append];exact Av hown2 hset (by decide)
      ·intro p hp;rw[List.mem_append]at hp;rcases hp with hp | hp
       ·exact((Aa HMs p hp).kp hK' (by decide) (by decide) (by decide) (by decide)).kp hset (by decide) (by decide) (by decide) (by decide)
       ·simp only[List.mem_singleton]at hp;subst hp;exact(ht4.kp hK' (by decide) (by decide) (by decide) (by decide)).kp hset (by decide) (by decide) (by decide) (by decide)
     have hcs5:=(hcs4.kp hK' (by decide) (by decide)).kp hset (by decide) (by decide);have e1:(Rd.rep (Rd.mth s.data.toList) (k+1) q5.2)=(p.1++[q.1],q.2):=by simp only[Rd.rep,Aa HP,Aa HQ]
     have HE:=Ac e1;have HB:=Ai (i:=1) hB5 (.slice va' (m.length+1) vc');have HC:=Aw hC5 (p:=⟨w.heap.size+1,1,none⟩) (by simp) (.slice va' (m.length+1) vc');clear e1 hgrow hown hown2 hRr hR4 hg4 G4 hgr x0 f0 hK hK' ht4 hB hC hB4 hC4 hset hcs4;go_wp2
     go_roundw
     case rel=>exact⟨k+1,_,_,by omega,by go_num,by rw[List.length_append,Aa HLen];rfl,by rw[Aa HE,List.map_append,Aa HMap2];rfl,hms5,hcs5,HB,HC,by rw[Aa HE];exact hR5.set (by simp;omega) _,hG5.set (.inl (by simp)) _⟩
     case measure=>simp[intOf];omega
    ·have e:k=q5.1.toNat:=by omega
     subst e;obtain⟨vb,vd,rfl⟩:=Af hms.1;clear hlen;obtain⟨x0,x1⟩:=cl2 hB;obtain⟨y0,y1⟩:=cl2 hC;obtain⟨g0,g1⟩:=fr2 hC;simp at x0 x1 y0 y1;go_wp2_with fail
     refine bodyPost_ret (v:=.agg #[.slice va l.length vc,.slice vb m.length vd]) (by simp[results,Tryz.results72,go_sem,y0,y1]) rfl ?_;have k1:=(Kp.set (b:=w.heap.size) (i:=0) hC (.slice va l.length vc)).trans (Kp.set (i:=1) (Ai (i:=0) hC (.slice va l.length vc)) (.slice vb m.length vd));refine⟨_,_,_,_,_,_,rfl,l,Aa HMap,hcs.kp k1 (by decide) (by decide),m,hmap,hms.kp k1 (by decide) (by decide) (by decide) (by decide) (by decide),?_,?_⟩
     ·exact(hRr.set (by simp;omega) _).set (by simp;omega) _
     ·exact(hgr.set (.inl (by simp)) _).set (.inl (by simp)) _
def Rd.read (s:List UInt8):Rd.Fil × Int :=
 if 15000<s.length then (⟨[],[]⟩,1)
 else if (Rd.fil s ⟨0,false⟩).2.bad=true∨(Rd.fil s ⟨0,false⟩).2.pos≠s.length then (⟨[],[]⟩,2)
 else ((Rd.fil s ⟨0,false⟩).1,0)
theorem Wc (s:ByteArray) (w:World) (hs:s.size≤maxLen) :
  Calls Tryz.prog 39 #[.string s] w fun e w' =>
   ∃ a1 n1 c1 a2 n2 c2,e=.returned (.tuple #[.agg #[.slice a1 n1 c1,.slice a2 n2 c2],.int .i64 (Rd.read s.data.toList).2]) ∧
    Vc w' w.heap.size (.slice a1 n1 c1) (Rd.read s.data.toList).1.classes∧Tw w' w.heap.size (.slice a2 n2 c2) (Rd.read s.data.toList).1.methods∧Below w.heap.size w w':=by
 have hlen:s.data.toList.length=s.size:=by simp
 unfold Rd.read;rw[hlen];have hnil1:∀ w':World,Vc w' w.heap.size (.slice none 0 0) []:=fun w'=>⟨[],rfl,World.ownsRow_nil _ _ _ _,by simp⟩;have hnil2:∀ w':World,Tw w' w.heap.size (.slice none 0 0) []:=fun w'=>⟨[],rfl,World.ownsRow_nil _ _ _ _,by simp⟩;have HN1:=Ac hnil1;have HN2:=Ac hnil2;clear hnil1 hnil2;by_cases h1:15000<s.size
 ·rw[if_pos h1];have h1':(15000:Int)<(s.size:Int):=by omega
  go_enter Tryz.func39,Tryz.ntmps39;go_wp2;refine bodyPost_ret (v:=.tuple #[.agg #[.slice none 0 0,.slice none 0 0],.int .i64 1]) (by simp[results,Tryz.results39,go_sem]) rfl ?_;exact⟨none,0,0,none,0,0,rfl,Aa HN1 _,Aa HN2 _,QN _⟩
 ·rw[if_neg h1];generalize hq:Rd.fil s.data.toList ⟨0,false⟩=q;have HQ:=Ac hq;clear hq;have h1':¬ (15000:Int)<(s.size:Int):=by omega
  have hR:RdAt ((w.alloc (O1 none 0 0 none 0 0)).alloc (O0 s 0 false)) (w.heap.size+1) s ⟨0,false⟩:=Ag w _ _;cases hbad:q.2.bad with
  | true =>
   rw[if_pos (.inl rfl)];have Hb:=Ac hbad;clear hbad;go_enter Tryz.func39,Tryz.ntmps39;go_wp2_with fail
   refine(Jw s (w.heap.size+1) ⟨0,false⟩ _ hs hR).mono ?_;rw[Aa HQ];rintro e w1 ⟨a1,n1,c1,a2,n2,c2,l1,l2,rfl,hm1,hc1,hm2,hc2,hR1,hg1⟩;have hC1:=hg1.own (Ah w _ _) (by omega);obtain⟨x0,x1,x2,f0,f1,f2⟩:=hR1.cells;rw[Aa Hb]at x2;obtain⟨y0,y1⟩:=cl2 hC1;obtain⟨g0,g1⟩:=fr2 hC1;simp at y0 y1;have hs1:=hg1.size;simp at hs1;have lt0:=lt_of_block hC1;have lt1:=hR1.lt;have hbl:Below w.heap.size w w1:=((((Gr.refl (w.heap.size+1) w).alloc _).alloc _).trans hg1).below (by omega);have HM1:=Ac hm1;have HM2:=Ac hm2;clear hm1 hm2;go_wp2_with fail
   refine bodyPost_ret (v:=.tuple #[.agg #[.slice none 0 0,.slice none 0 0],.int .i64 2]) (by simp[results,Tryz.results39,go_sem,y0,y1,lt0]) rfl ?_;exact⟨none,0,0,none,0,0,rfl,Aa HN1 _,Aa HN2 _,((hbl.setCell (by simp) _).setCell (by simp) _).alloc (by simp;omega) _⟩
  | false =>
   have Hb:=Ac hbad;clear hbad;by_cases hpos:q.2.pos=s.size
   ·rw[if_neg (by simp[hpos])];have hp1:((q.2.pos:Int) != (s.size:Int))=false:=by simp[hpos]
    clear hpos;go_enter Tryz.func39,Tryz.ntmps39;go_wp2_with fail
    refine(Jw s (w.heap.size+1) ⟨0,false⟩ _ hs hR).mono ?_;rw[Aa HQ];rintro e w1 ⟨a1,n1,c1,a2,n2,c2,l1,l2,rfl,hm1,hc1,hm2,hc2,hR1,hg1⟩;have hC1:=hg1.own (Ah w _ _) (by omega);obtain⟨x0,x1,x2,f0,f1,f2⟩:=hR1.cells;rw[Aa Hb]at x2;obtain⟨y0,y1⟩:=cl2 hC1;obtain⟨g0,g1⟩:=fr2 hC1;simp at y0 y1;have hs1:=hg1.size;simp at hs1;have lt0:=lt_of_block hC1;have lt1:=hR1.lt;have hbl:Below w.heap.size w w1:=((((Gr.refl (w.heap.size+1) w).alloc _).alloc _).trans hg1).below (by omega);have HM1:=Ac hm1;have HM2:=Ac hm2;clear hm1 hm2;go_wp2_with fail
    refine bodyPost_ret (v:=.tuple #[.agg #[.slice a1 n1 c1,.slice a2 n2 c2],.int .i64 0]) (by simp[results,Tryz.results39,go_sem,y0,y1,lt0]) rfl ?_;have k1:=((Kp.set (b:=w.heap.size) (i:=0) hC1 (.slice a1 n1 c1)).trans (Kp.set (i:=1) (Ai (i:=0) hC1 (.slice a1 n1 c1)) (.slice a2 n2 c2))).trans (Kp.alloc _ (O1 a1 n1 c1 a2 n2 c2));refine⟨_,_,_,_,_,_,rfl,⟨l1,Aa HM1,?_⟩,⟨l2,Aa HM2,?_⟩,((hbl.setCell (by simp) _).setCell (by simp) _).alloc (by simp;omega) _⟩
    ·exact(hc1.mono (by simp;omega)).kp k1 (by decide) (by decide)
    ·exact(hc2.mono (by simp;omega)).kp k1 (by decide) (by decide) (by decide) (by decide) (by decide)
   ·rw[if_pos (.inr hpos)];have hp1:((q.2.pos:Int) != (s.size:Int))=true:=by simp;omega
    clear hpos;go_enter Tryz.func39,Tryz.ntmps39;go_wp2_with fail
    refine(Jw s (w.heap.size+1) ⟨0,false⟩ _ hs hR).mono ?_;rw[Aa HQ];rintro e w1 ⟨a1,n1,c1,a2,n2,c2,l1,l2,rfl,hm1,hc1,hm2,hc2,hR1,hg1⟩;have hC1:=hg1.own (Ah w _ _) (by omega);obtain⟨x0,x1,x2,f0,f1,f2⟩:=hR1.cells;rw[Aa Hb]at x2;obtain⟨y0,y1⟩:=cl2 hC1;obtain⟨g0,g1⟩:=fr2 hC1;simp at y0 y1;have hs1:=hg1.size;simp at hs1;have lt0:=lt_of_block hC1;have lt1:=hR1.lt;have hbl:Below w.heap.size w w1:=((((Gr.refl (w.heap.size+1) w).alloc _).alloc _).trans hg1).below (by omega);have HM1:=Ac hm1;have HM2:=Ac hm2;clear hm1 hm2;go_wp2_with fail
    refine bodyPost_ret (v:=.tuple #[.agg #[.slice none 0 0,.slice none 0 0],.int .i64 2]) (by simp[results,Tryz.results39,go_sem,y0,y1,lt0]) rfl ?_;exact⟨none,0,0,none,0,0,rfl,Aa HN1 _,Aa HN2 _,((hbl.setCell (by simp) _).setCell (by simp) _).alloc (by simp;omega) _⟩
end Go.Proofs.YtcefiamkoincoaaGreat
namespace Go.Proofs.YtcefiamkoincoaaGreat.Tr
def ov (l:List Int) (c:Int):Int:=if c<0 then -1 else if (l.length:Int)≤c then -1 else l.getD c.toNat 0
def upTo (l:List Int) (high:Int):Nat→Int→Bool
 | 0,_=>false
 | n+1,pos=>if pos = -1 then false else if pos=high then true else upTo l high n (ov l pos)
def below (l:List Int) (low high:Int):Bool:=upTo l high l.length (ov l low)
def hasB (l:List Int) (c:Int):Bool:=decide (0≤c)&&decide (c<(l.length:Int))
def plainB (l:List Int) (k n:Int):Bool:=if k=1 then n==0 else if k=3 then hasB l n else false
def settledB (l:List Int) (k n:Int):Bool:=if k=0∨k=2 then n==0 else plainB l k n
def fitsB (l:List Int) (k n k' n':Int):Bool :=
 if k=k'∧n=n' then true else if k'=0 then true else if k' ≠ 3 then false else if k=2 then true else if k=3 then below l n n' else false
def meetTo (l:List Int) (b:Int):Nat→Int→Int
 | 0,_=>0
 | n+1,a=>if a=b then a else if below l b a=true then a else meetTo l b n (ov l a)
def meet (l:List Int) (a b:Int):Int:=meetTo l b l.length a
def joinT (l:List Int) (a b:Int × Int):Int × Int :=
 if fitsB l a.1 a.2 b.1 b.2=true then b
 else if fitsB l b.1 b.2 a.1 a.2=true then a
 else if a.1≠3 then (0,0)
 else if b.1≠3 then (0,0)
 else (3,meet l a.2 b.2)
def allPlainB (l:List Int) (fs:List (Int × Int)):Bool:=fs.all fun f=>plainB l f.1 f.2
end Go.Proofs.YtcefiamkoincoaaGreat.Tr
namespace Go.Proofs.YtcefiamkoincoaaGreat
open Go.RowKit
variable {ya:Option Addr}{yn yc:Nat}
def TreeIn (w:World) (g:Nat) (l:List Int):Prop:=g<w.heap.size∧∀ i,i<l.length→w.cell? ⟨g,i,none⟩=some (.int .i64 (l.getD i 0))
theorem TreeIn.below {w w':World}{g:Nat}{l:List Int} (h:TreeIn w g l) (hb:Below w.heap.size w w'):TreeIn w' g l :=
 ⟨Nat.lt_of_lt_of_le h.1 hb.size,fun i hi=>by rw[hb.cell (p:=⟨g,i,none⟩) h.1];exact h.2 i hi⟩
theorem TreeIn.alloc {w:World}{g:Nat}{l:List Int} (h:TreeIn w g l) (o:Obj):TreeIn (w.alloc o) g l:=h.below (QN _)
theorem J8 (l:List Int) (g cap:Nat) (c:Int) (w:World) (hT:TreeIn w g l) :
  Calls Tryz.prog 178 #[.agg #[.slice (some ⟨g,0,none⟩) l.length cap,.slice ya yn yc],.int .i64 c] w fun e w'=>e=.returned (.int .i64 (Tr.ov l c))∧Below w.heap.size w w':=by
 unfold Tr.ov;by_cases h1:c<0
 ·rw[if_pos h1];go_enter Tryz.func178,Tryz.ntmps178;go_wp2;go_ret;exact⟨rfl,QN _⟩
 ·rw[if_neg h1];by_cases h2:(l.length:Int)≤c
  ·rw[if_pos h2];go_enter Tryz.func178,Tryz.ntmps178;go_wp2;go_ret;exact⟨rfl,QN _⟩
  ·rw[if_neg h2];obtain⟨i,rfl⟩:=Int.eq_ofNat_of_zero_le (show 0≤c by omega);have hi:i<l.length:=by omega
   have hc:=(hT.alloc (O2 (some ⟨g,0,none⟩) l.length cap ya yn yc)).2 i hi;have hg:=hT.1;go_enter Tryz.func178,Tryz.ntmps178;go_wp2;go_ret;exact⟨rfl,QN _⟩
theorem Ld (l:List Int) (a:Option Addr) (cap:Nat) (c:Int) (w:World) :
  Calls Tryz.prog 161 #[.agg #[.slice a l.length cap,.slice ya yn yc],.int .i64 c] w fun e w'=>e=.returned (.bool (Tr.hasB l c))∧Below w.heap.size w w':=by
 unfold Tr.hasB;by_cases h1:0≤c
 ·go_enter Tryz.func161,Tryz.ntmps161;go_wp2;go_ret;exact⟨by simp[h1],QN _⟩
 ·go_enter Tryz.func161,Tryz.ntmps161;go_wp2;go_ret;exact⟨by simp;omega,QN _⟩
theorem Tp {l:List Int}{high pos:Int}{n:Nat} (h1:pos ≠ -1) (h2:pos≠high):Tr.upTo l high (n+1) pos=Tr.upTo l high n (Tr.ov l pos):=by
 simp[Tr.upTo,h1,h2]
theorem Wf {l:List Int}{high pos:Int}{n:Nat} (h1:pos ≠ -1) (h2:pos=high):Tr.upTo l high (n+1) pos=true:=by
 subst h2;simp[Tr.upTo,h1]
theorem W8 {l:List Int}{high pos:Int}{n:Nat} (h1:pos = -1):Tr.upTo l high n pos=false:=by
 cases n<;>simp[Tr.upTo,h1]
theorem H9 (l:List Int) (g cap:Nat) (low high:Int) (w:World) (hl:l.length≤1000) (hT:TreeIn w g l) :
  Calls Tryz.prog 133 #[.agg #[.slice (some ⟨g,0,none⟩) l.length cap,.slice ya yn yc],.int .i64 low,.int .i64 high] w fun e w'=>e=.returned (.bool (Tr.below l low high))∧Below w.heap.size w w':=by
 unfold Tr.below;generalize hr:Tr.upTo l high l.length (Tr.ov l low)=r;have HR:=Ac hr;clear hr;have hg:=hT.1;have hT0:=hT.alloc (O2 (some ⟨g,0,none⟩) l.length cap ya yn yc);have hb0:Below w.heap.size w (w.alloc (O2 (some ⟨g,0,none⟩) l.length cap ya yn yc)):=QN _;have hx0:=Ad w (O2 (some ⟨g,0,none⟩) l.length cap ya yn yc);go_enter Tryz.func133,Tryz.ntmps133;go_wp2_with fail
 refine(J8 l g cap low _ hT0).mono ?_;rintro e w1 ⟨rfl,hb1⟩;have hB1:Below w.heap.size w w1:=hb0.trans (hb1.mono (by simp));have hx1:w1.heap[w.heap.size]?=some (O2 (some ⟨g,0,none⟩) l.length cap ya yn yc):=(hb1.block _ (by simp)).trans hx0;clear hb0 hb1 hx0 hT0;go_wp2
 go_loopw [7,8] (fun p i wr=>∃ (k:Nat) (q:Int),k≤l.length∧i=.int .i64 k∧p=.int .i64 q∧Hid (Tr.upTo l high (l.length-k) q=r)∧Below w.heap.size w wr ∧
   wr.heap[w.heap.size]?=some (O2 (some ⟨g,0,none⟩) l.length cap ya yn yc))
  (fun _ i _=>l.length-(intOf i).toNat)
 case atStart=>exact⟨0,_,by omega,rfl,rfl,HR,hB1,hx1⟩
 case round =>
  clear hB1 hx1 HR;obtain⟨k,q,hk,rfl,rfl,HR,hB,hx⟩:=hrel;obtain⟨c0,c1⟩:=cl2 hx;simp at c0 c1;by_cases hkn:k<l.length
  ·by_cases h1:q = -1
   ·have h1':(q != -1)=false:=by simp[h1]
    have hf:r=false:=by rw[← Aa HR];exact W8 h1
    have HF:=Ac hf;have H1:=Ac h1;clear hf h1;go_wp2;go_ret;exact⟨by rw[Aa HF];rfl,hB⟩
   ·have h1':(q != -1)=true:=by simp[h1]
    by_cases h2:q=high
    ·have h2':(q==high)=true:=by simp[h2]
     have hf:r=true:=by rw[← Aa HR,show l.length-k=(l.length-k-1)+1 by omega];exact Wf h1 h2
     have HF:=Ac hf;have H1:=Ac h1;have H2:=Ac h2;clear hf h1 h2;go_wp2;go_ret;exact⟨by rw[Aa HF];rfl,hB⟩
    ·have h2':(q==high)=false:=by simp[h2]
     have HF:Hid (Tr.upTo l high (l.length-(k+1)) (Tr.ov l q)=r):=by
      unfold Hid;rw[← Aa HR,show l.length-k=(l.length-(k+1))+1 by omega,Tp h1 h2]
     have H1:=Ac h1;have H2:=Ac h2;clear h1 h2;have hTr:=hT.below hB;go_wp2_with fail
     refine(J8 l g cap q _ hTr).mono ?_;rintro e w2 ⟨rfl,hb2⟩;have hB2:Below w.heap.size w w2:=QB hB hb2;have hx2:=(hb2.block _ (lt_of_block hx)).trans hx;clear hb2 hB hx hTr;go_wp2
     go_roundw
     case rel=>exact⟨k+1,_,by omega,by go_num,rfl,HF,hB2,hx2⟩
     case measure=>simp[intOf];omega
  ·have hf:r=false:=by rw[← Aa HR,show l.length-k=0 by omega];rfl
   have HF:=Ac hf;clear hf;go_wp2;go_ret;exact⟨by rw[Aa HF];rfl,hB⟩
variable {ya:Option Addr}{yn yc:Nat}
theorem Ak (w:World) (o o':Obj):Below w.heap.size w ((w.alloc o).alloc o'):=(QN _).alloc (by simp) _
theorem A8 (w:World) (o o' o'':Obj):Below w.heap.size w (((w.alloc o).alloc o').alloc o''):=((QN _).alloc (by simp) _).alloc (by simp;omega) _
theorem Fb (l:List Int) (a:Option Addr) (cap:Nat) (k n:Int) (w:World) :
  Calls Tryz.prog 159 #[.agg #[.slice a l.length cap,.slice ya yn yc],.agg #[.int .i64 k,.int .i64 n]] w fun e w'=>e=.returned (.bool (Tr.plainB l k n))∧Below w.heap.size w w':=by
 unfold Tr.plainB;by_cases h1:k=1
 ·rw[if_pos h1];have h1':(k==1)=true:=by simp[h1]
  clear h1;go_enter Tryz.func159,Tryz.ntmps159;go_wp2;go_ret;exact⟨rfl,Ak _ _ _⟩
 ·rw[if_neg h1];have h1':(k==1)=false:=by simp[h1]
  clear h1;by_cases h3:k=3
  ·rw[if_pos h3];have h3':(k==3)=true:=by simp[h3]
   clear h3;go_enter Tryz.func159,Tryz.ntmps159;go_wp2_with fail
   refine(Ld l a cap n _).mono ?_;rintro e w1 ⟨rfl,hb⟩;go_wp2;go_ret;exact⟨rfl,(Ak _ _ _).trans (hb.mono (by simp;omega))⟩
  ·rw[if_neg h3];have h3':(k==3)=false:=by simp[h3]
   clear h3;go_enter Tryz.func159,Tryz.ntmps159;go_wp2;go_ret;exact⟨rfl,Ak _ _ _⟩
theorem Mz (l:List Int) (a:Option Addr) (cap:Nat) (k n:Int) (w:World) :
  Calls Tryz.prog 177 #[.agg #[.slice a l.length cap,.slice ya yn yc],.agg #[.int .i64 k,.int .i64 n]] w fun e w'=>e=.returned (.bool (Tr.settledB l k n))∧Below w.heap.size w w':=by
 unfold Tr.settledB;by_cases h1:k=0
 ·rw[if_pos (.inl h1)];have h1':(k==0)=true:=by simp[h1]
  clear h1;go_enter Tryz.func177,Tryz.ntmps177;go_wp2;go_ret;exact⟨rfl,Ak _ _ _⟩
 ·by_cases h2:k=2
  ·rw[if_pos (.inr h2)];have h1':(k==0)=false:=by simp[h1]
   have h2':(k==2)=true:=by simp[h2]
   clear h1 h2;go_enter Tryz.func177,Tryz.ntmps177;go_wp2;go_ret;exact⟨rfl,Ak _ _ _⟩
  ·rw[if_neg (by omega)];have h1':(k==0)=false:=by simp[h1]
   have h2':(k==2)=false:=by simp[h2]
   clear h1 h2;go_enter Tryz.func177,Tryz.ntmps177;go_wp2_with fail
   refine(Fb l a cap k n _).mono ?_;rintro e w1 ⟨rfl,hb⟩;go_wp2;go_ret;exact⟨rfl,(Ak _ _ _).trans (hb.mono (by simp;omega))⟩
theorem Bz (l:List Int) (g cap:Nat) (k n k' n':Int) (w:World) (hl:l.length≤1000) (hT:TreeIn w g l) :
  Calls Tryz.prog 87 #[.agg #[.slice (some ⟨g,0,none⟩) l.length cap,.slice ya yn yc],.agg #[.int .i64 k,.int .i64 n],.agg #[.int .i64 k',.int .i64 n']] w fun e w'=>e=.returned (.bool (Tr.fitsB l k n k' n'))∧Below w.heap.size w w':=by
 unfold Tr.fitsB;by_cases h1:k=k'∧n=n'
 ·rw[if_pos h1];obtain⟨rfl,rfl⟩:=h1;go_enter Tryz.func87,Tryz.ntmps87;go_wp2;go_ret;exact⟨rfl,A8 _ _ _ _⟩
 ·rw[if_neg h1];by_cases h2:k'=0
  ·rw[if_pos h2];subst h2;by_cases h0:k=0
   ·subst h0;have hn:¬ n=n':=fun hn=>h1 ⟨rfl,hn⟩;clear h1;go_enter Tryz.func87,Tryz.ntmps87;go_wp2;go_ret;exact⟨rfl,A8 _ _ _ _⟩
   ·clear h1;go_enter Tryz.func87,Tryz.ntmps87;go_wp2;go_ret;exact⟨rfl,A8 _ _ _ _⟩
  ·rw[if_neg h2];by_cases h3:k'=3
   ·rw[if_neg (by omega)];subst h3;by_cases h4:k=2
    ·rw[if_pos h4];subst h4;clear h1 h2;go_enter Tryz.func87,Tryz.ntmps87;go_wp2;go_ret;exact⟨rfl,A8 _ _ _ _⟩
    ·rw[if_neg h4];by_cases h5:k=3
     ·rw[if_pos h5];subst h5;have hn:¬ n=n':=fun hn=>h1 ⟨rfl,hn⟩;clear h1 h2 h4;go_enter Tryz.func87,Tryz.ntmps87;go_wp2_with fail
      refine(H9 l g cap n n' _ hl (hT.below (A8 _ _ _ _))).mono ?_;rintro e w1 ⟨rfl,hb⟩;go_wp2;go_ret;exact⟨rfl,(A8 _ _ _ _).trans (hb.mono (by simp;omega))⟩
     ·rw[if_neg h5];have h4':(k==2)=false:=by simp[h4]
      have h5':(k==3)=false:=by simp[h5]
      clear h1 h2 h4;go_enter Tryz.func87,Tryz.ntmps87;go_wp2;go_ret;exact⟨rfl,A8 _ _ _ _⟩
   ·rw[if_pos h3];have h2':(k' == 0)=false:=by simp[h2]
    have h3':(k' != 3)=true:=by simp[h3]
    by_cases h0:k=k'
    ·subst h0;have hn:¬ n=n':=fun hn=>h1 ⟨rfl,hn⟩;clear h1 h2 h3;go_enter Tryz.func87,Tryz.ntmps87;go_wp2;go_ret;exact⟨rfl,A8 _ _ _ _⟩
    ·clear h1 h2 h3;go_enter Tryz.func87,Tryz.ntmps87;go_wp2;go_ret;exact⟨rfl,A8 _ _ _ _⟩
variable {ya:Option Addr}{yn yc:Nat}
def Tr.within (l:List Int) (a b:Int):Bool:=(a==b) || Tr.below l a b
theorem Sa {l:List Int}{a b:Int}{n:Nat} (h:Tr.within l b a=true):Tr.meetTo l b (n+1) a=a:=by
 unfold Tr.within at h;by_cases h1:a=b
 ·simp[Tr.meetTo,h1]
 ·have h2:Tr.below l b a=true:=by
   have h3:(b==a)=false:=by simp;omega
   rw[h3]at h;simpa using h
  simp[Tr.meetTo,h2]
theorem Vu {l:List Int}{a b:Int}{n:Nat} (h:Tr.within l b a=false):Tr.meetTo l b (n+1) a=Tr.meetTo l b n (Tr.ov l a):=by
 unfold Tr.within at h;simp only[Bool.or_eq_false_iff,beq_eq_false_iff_ne,ne_eq]at h;have h1:¬ a=b:=fun e=>h.1 e.symm;simp[Tr.meetTo,h1,h.2]
theorem Fs (l:List Int) (g cap:Nat) (a b:Int) (w:World) (hl:l.length≤1000) (hT:TreeIn w g l) :
  Calls Tryz.prog 180 #[.agg #[.slice (some ⟨g,0,none⟩) l.length cap,.slice ya yn yc],.int .i64 a,.int .i64 b] w fun e w'=>e=.returned (.bool (Tr.within l a b))∧Below w.heap.size w w':=by
 have hB1:Below w.heap.size w (w.alloc (O2 (some ⟨g,0,none⟩) l.length cap ya yn yc)):=QN _;unfold Tr.within;by_cases h:a=b
 ·subst h;rw[beq_self_eq_true,Bool.true_or];have h':(a==a)=true:=by simp
  go_enter Tryz.func180,Tryz.ntmps180;go_wp2;go_ret;exact⟨rfl,hB1⟩
 ·have h':(a==b)=false:=by simp[h]
  rw[h',Bool.false_or];generalize hlow:Tr.below l a b=r;have HL:=Ac hlow;clear h hlow;go_enter Tryz.func180,Tryz.ntmps180;go_wp2_with fail
  refine(H9 l g cap a b _ hl (hT.below hB1)).mono ?_;rw[Aa HL];rintro e w2 ⟨rfl,hb2⟩;go_wp2;go_ret;exact⟨rfl,hB1.trans (hb2.mono (by simp))⟩
theorem Wo (l:List Int) (g cap:Nat) (a b:Int) (w:World) (hl:l.length≤1000) (hT:TreeIn w g l) :
  Calls Tryz.prog 143 #[.agg #[.slice (some ⟨g,0,none⟩) l.length cap,.slice ya yn yc],.int .i64 a,.int .i64 b] w fun e w'=>e=.returned (.int .i64 (Tr.meet l a b))∧Below w.heap.size w w':=by
 unfold Tr.meet;generalize hr:Tr.meetTo l b l.length a=r;have HR:=Ac hr;clear hr;have hg:=hT.1;have hB1:Below w.heap.size w (w.alloc (O2 (some ⟨g,0,none⟩) l.length cap ya yn yc)):=QN _;have hx1:=Ad w (O2 (some ⟨g,0,none⟩) l.length cap ya yn yc);go_enter Tryz.func143,Tryz.ntmps143;go_wp2
 go_loopw [1,7] (fun p i wr=>∃ (k:Nat) (q:Int),k≤l.length∧i=.int .i64 k∧p=.int .i64 q∧Hid (Tr.meetTo l b (l.length-k) q=r)∧Below w.heap.size w wr ∧
   wr.heap[w.heap.size]?=some (O2 (some ⟨g,0,none⟩) l.length cap ya yn yc))
  (fun _ i _=>l.length-(intOf i).toNat)
 case atStart=>exact⟨0,_,by omega,rfl,rfl,HR,hB1,hx1⟩
 case round =>
  clear hB1 hx1 HR;obtain⟨k,q,hk,rfl,rfl,HR,hB,hx⟩:=hrel;obtain⟨c0,c1⟩:=cl2 hx;simp at c0 c1;have hTr:=hT.below hB;have hBs:=hB.size;by_cases hkn:k<l.length
  ·cases hlow:Tr.within l b q with
   | true =>
    have hf:r=q:=by rw[← Aa HR,show l.length-k=(l.length-k-1)+1 by omega];exact Sa hlow
    have HF:=Ac hf;have HL:=Ac hlow;clear hf hlow;go_wp2_with fail
    refine(Fs l g cap b q _ hl hTr).mono ?_;rw[Aa HL];rintro e w2 ⟨rfl,hb2⟩;go_wp2;go_ret;exact⟨by rw[Aa HF];rfl,hB.trans (hb2.mono hBs)⟩
   | false =>
    have HF:Hid (Tr.meetTo l b (l.length-(k+1)) (Tr.ov l q)=r):=by
     unfold Hid;rw[← Aa HR,show l.length-k=(l.length-(k+1))+1 by omega,Vu hlow]
    have HL:=Ac hlow;clear hlow;go_wp2_with fail
    refine(Fs l g cap b q _ hl hTr).mono ?_;rw[Aa HL];rintro e w2 ⟨rfl,hb2⟩;have hB2:=hB.trans (hb2.mono hBs);have hx2:=(hb2.block _ (lt_of_block hx)).trans hx;have hT2:=hT.below hB2;obtain⟨c2,c3⟩:=cl2 hx2;simp at c2 c3;clear hb2 hB hx hTr c0 c1;go_wp2_with fail
    refine(J8 l g cap q _ hT2).mono ?_;rintro e w3 ⟨rfl,hb3⟩;have hB3:=QB hB2 hb3;have hx3:=(hb3.block _ (lt_of_block hx2)).trans hx2;clear hb3 hB2 hx2 hT2 c2 c3;go_wp2
    go_roundw
    case rel=>exact⟨k+1,_,by omega,by go_num,rfl,HF,hB3,hx3⟩
    case measure=>simp[intOf];omega
  ·have hf:r=0:=by rw[← Aa HR,show l.length-k=0 by omega];rfl
   have HF:=Ac hf;clear hf;go_wp2;go_ret;exact⟨by rw[Aa HF];rfl,hB⟩
theorem Bp (w:World) (o o' o'' o3:Obj):Below w.heap.size w ((((w.alloc o).alloc o').alloc o'').alloc o3):=(A8 w o o' o'').alloc (by simp;omega) _
theorem Bf (w:World) (o0 o1 o2 o3:Obj):((((w.alloc o0).alloc o1).alloc o2).alloc o3).heap[w.heap.size]?=some o0∧((((w.alloc o0).alloc o1).alloc o2).alloc o3).heap[w.heap.size+1]?=some o1 ∧
  ((((w.alloc o0).alloc o1).alloc o2).alloc o3).heap[w.heap.size+1+1]?=some o2∧((((w.alloc o0).alloc o1).alloc o2).alloc o3).heap[w.heap.size+1+1+1]?=some o3:=by
 refine⟨?_,?_,?_,?_⟩
 ·rw[Below.heap_alloc _ _ _ (by first | (simp;done) | (simp;omega)),Below.heap_alloc _ _ _ (by first | (simp;done) | (simp;omega)),Below.heap_alloc _ _ _ (by first | (simp;done) | (simp;omega))];exact Ad w o0
 ·rw[Below.heap_alloc _ _ _ (by first | (simp;done) | (simp;omega)),Below.heap_alloc _ _ _ (by first | (simp;done) | (simp;omega))];simpa using Ad (w.alloc o0) o1
 ·rw[Below.heap_alloc _ _ _ (by first | (simp;done) | (simp;omega))];simpa using Ad ((w.alloc o0).alloc o1) o2
 ·simpa using Ad (((w.alloc o0).alloc o1).alloc o2) o3
theorem stay {w w':World}{k:Nat}{o:Obj} (hb:Below w.heap.size w w') (h:w.heap[k]?=some o):w'.heap[k]?=some o:=(hb.block k (lt_of_block h)).trans h
theorem Ud (l:List Int) (g cap:Nat) (k n k' n':Int) (w:World) (hl:l.length≤1000) (hT:TreeIn w g l) :
  Calls Tryz.prog 102 #[.agg #[.slice (some ⟨g,0,none⟩) l.length cap,.slice ya yn yc],.agg #[.int .i64 k,.int .i64 n],.agg #[.int .i64 k',.int .i64 n']] w fun e w' =>
   e=.returned (.agg #[.int .i64 (Tr.joinT l (k,n) (k',n')).1,.int .i64 (Tr.joinT l (k,n) (k',n')).2])∧Below w.heap.size w w':=by
 unfold Tr.joinT;dsimp only;cases h1:Tr.fitsB l k n k' n' with
 | true =>
  rw[if_pos rfl];have H1:=Ac h1;clear h1;go_enter Tryz.func102,Tryz.ntmps102;go_wp2_with fail
  refine(Bz l g cap _ _ _ _ _ hl (hT.below (Bp _ _ _ _ _))).mono ?_;rw[Aa H1];rintro e w1 ⟨rfl,hb1⟩;have C1:=stay hb1 (Bf w _ _ _ _).2.1;have C2:=stay hb1 (Bf w _ _ _ _).2.2.1;have C3:=stay hb1 (Bf w _ _ _ _).2.2.2;have hB1:=(Bp w _ _ _ _).trans (hb1.mono (by simp;omega));obtain⟨a0,a1⟩:=cl2 C1;obtain⟨b0,b1⟩:=cl2 C2;obtain⟨r0,r1⟩:=cl2 C3;obtain⟨q0,q1⟩:=fr2 C3;simp at a0 a1 b0 b1 r0 r1;go_wp2_with fail
  refine bodyPost_ret (v:=.agg #[.int .i64 k',.int .i64 n']) (by simp[results,Tryz.results102,go_sem,r0,r1]) rfl ?_;exact⟨rfl,(hB1.setCell (by simp;omega) _).setCell (by simp;omega) _⟩
 | false =>
  rw[if_neg (by simp)];have H1:=Ac h1;clear h1;cases h2:Tr.fitsB l k' n' k n with
  | true =>
   rw[if_pos rfl];have H2:=Ac h2;clear h2;go_enter Tryz.func102,Tryz.ntmps102;go_wp2_with fail
   refine(Bz l g cap _ _ _ _ _ hl (hT.below (Bp _ _ _ _ _))).mono ?_;rw[Aa H1];rintro e w1 ⟨rfl,hb1⟩;have C1:=stay hb1 (Bf w _ _ _ _).2.1;have C2:=stay hb1 (Bf w _ _ _ _).2.2.1;have C3:=stay hb1 (Bf w _ _ _ _).2.2.2;have hB1:=(Bp w _ _ _ _).trans (hb1.mono (by simp;omega));obtain⟨a0,a1⟩:=cl2 C1;obtain⟨b0,b1⟩:=cl2 C2;obtain⟨r0,r1⟩:=cl2 C3;obtain⟨q0,q1⟩:=fr2 C3;simp at a0 a1 b0 b1 r0 r1;have C0:=stay hb1 (Bf w _ _ _ _).1;obtain⟨t0,t9⟩:=cl2 C0;simp at t0 t9;go_wp2_with fail
   clear a0 a1 b0 b1 r0 r1 q0 q1 t0 t9;refine(Bz l g cap _ _ _ _ _ hl (hT.below hB1)).mono ?_;rw[Aa H2];rintro e w2 ⟨rfl,hb2⟩;have hB2:=QB hB1 hb2;have D0:=stay hb2 C0;have D1:=stay hb2 C1;have D2:=stay hb2 C2;have D3:=stay hb2 C3;obtain⟨a0,a1⟩:=cl2 D1;obtain⟨b0,b1⟩:=cl2 D2;obtain⟨r0,r1⟩:=cl2 D3;obtain⟨q0,q1⟩:=fr2 D3;obtain⟨t0,t9⟩:=cl2 D0;simp at a0 a1 b0 b1 r0 r1 t0 t9;clear C0 C1 C2 C3;go_wp2_with fail
   refine bodyPost_ret (v:=.agg #[.int .i64 k,.int .i64 n]) (by simp[results,Tryz.results102,go_sem,r0,r1]) rfl ?_;exact⟨rfl,(hB2.setCell (by simp;omega) _).setCell (by simp;omega) _⟩
  | false =>
   rw[if_neg (by simp)];have H2:=Ac h2;clear h2;by_cases h3:k=3
   ·rw[if_neg (by omega)];subst h3;by_cases h4:k'=3
    ·rw[if_neg (by omega)];subst h4;go_enter Tryz.func102,Tryz.ntmps102;go_wp2_with fail
     refine(Bz l g cap _ _ _ _ _ hl (hT.below (Bp _ _ _ _ _))).mono ?_;rw[Aa H1];rintro e w1 ⟨rfl,hb1⟩;have C1:=stay hb1 (Bf w _ _ _ _).2.1;have C2:=stay hb1 (Bf w _ _ _ _).2.2.1;have C3:=stay hb1 (Bf w _ _ _ _).2.2.2;have hB1:=(Bp w _ _ _ _).trans (hb1.mono (by simp;omega));obtain⟨a0,a1⟩:=cl2 C1;obtain⟨b0,b1⟩:=cl2 C2;obtain⟨r0,r1⟩:=cl2 C3;obtain⟨q0,q1⟩:=fr2 C3;simp at a0 a1 b0 b1 r0 r1;have C0:=stay hb1 (Bf w _ _ _ _).1;obtain⟨t0,t9⟩:=cl2 C0;simp at t0 t9;go_wp2_with fail
     clear a0 a1 b0 b1 r0 r1 q0 q1 t0 t9;refine(Bz l g cap _ _ _ _ _ hl (hT.below hB1)).mono ?_;rw[Aa H2];rintro e w2 ⟨rfl,hb2⟩;have hB2:=QB hB1 hb2;have D0:=stay hb2 C0;have D1:=stay hb2 C1;have D2:=stay hb2 C2;have D3:=stay hb2 C3;obtain⟨a0,a1⟩:=cl2 D1;obtain⟨b0,b1⟩:=cl2 D2;obtain⟨r0,r1⟩:=cl2 D3;obtain⟨q0,q1⟩:=fr2 D3;obtain⟨t0,t9⟩:=cl2 D0;simp at a0 a1 b0 b1 r0 r1 t0 t9;clear C0 C1 C2 C3;go_wp2_with fail
     clear a0 a1 b0 b1 r0 r1 q0 q1 t0 t9;refine(Wo l g cap n n' _ hl (hT.below hB2)).mono ?_;rintro e w3 ⟨rfl,hb3⟩;have hB3:=QB hB2 hb3;have E3:=stay hb3 D3;obtain⟨r0,r1⟩:=cl2 E3;obtain⟨q0,q1⟩:=fr2 E3;simp at r0 r1;go_wp2_with fail
     refine bodyPost_ret (v:=.agg #[.int .i64 3,.int .i64 (Tr.meet l n n')]) (by simp[results,Tryz.results102,go_sem,r0,r1]) rfl ?_;exact⟨rfl,(hB3.setCell (by simp;omega) _).setCell (by simp;omega) _⟩
    ·rw[if_pos h4];have h4':(k' != 3)=true:=by simp[h4]
     clear h4;go_enter Tryz.func102,Tryz.ntmps102;go_wp2_with fail
     refine(Bz l g cap _ _ _ _ _ hl (hT.below (Bp _ _ _ _ _))).mono ?_;rw[Aa H1];rintro e w1 ⟨rfl,hb1⟩;have C1:=stay hb1 (Bf w _ _ _ _).2.1;have C2:=stay hb1 (Bf w _ _ _ _).2.2.1;have C3:=stay hb1 (Bf w _ _ _ _).2.2.2;have hB1:=(Bp w _ _ _ _).trans (hb1.mono (by simp;omega));obtain⟨a0,a1⟩:=cl2 C1;obtain⟨b0,b1⟩:=cl2 C2;obtain⟨r0,r1⟩:=cl2 C3;obtain⟨q0,q1⟩:=fr2 C3;simp at a0 a1 b0 b1 r0 r1;have C0:=stay hb1 (Bf w _ _ _ _).1;obtain⟨t0,t9⟩:=cl2 C0;simp at t0 t9;go_wp2_with fail
     clear a0 a1 b0 b1 r0 r1 q0 q1 t0 t9;refine(Bz l g cap _ _ _ _ _ hl (hT.below hB1)).mono ?_;rw[Aa H2];rintro e w2 ⟨rfl,hb2⟩;have hB2:=QB hB1 hb2;have D0:=stay hb2 C0;have D1:=stay hb2 C1;have D2:=stay hb2 C2;have D3:=stay hb2 C3;obtain⟨a0,a1⟩:=cl2 D1;obtain⟨b0,b1⟩:=cl2 D2;obtain⟨r0,r1⟩:=cl2 D3;obtain⟨q0,q1⟩:=fr2 D3;obtain⟨t0,t9⟩:=cl2 D0;simp at a0 a1 b0 b1 r0 r1 t0 t9;clear C0 C1 C2 C3;go_wp2_with fail
     refine bodyPost_ret (v:=.agg #[.int .i64 0,.int .i64 0]) (by simp[results,Tryz.results102,go_sem,r0,r1]) rfl ?_;exact⟨rfl,(hB2.setCell (by simp;omega) _).setCell (by simp;omega) _⟩
   ·rw[if_pos h3];have h3':(k != 3)=true:=by simp[h3]
    clear h3;go_enter Tryz.func102,Tryz.ntmps102;go_wp2_with fail
    refine(Bz l g cap _ _ _ _ _ hl (hT.below (Bp _ _ _ _ _))).mono ?_;rw[Aa H1];rintro e w1 ⟨rfl,hb1⟩;have C1:=stay hb1 (Bf w _ _ _ _).2.1;have C2:=stay hb1 (Bf w _ _ _ _).2.2.1;have C3:=stay hb1 (Bf w _ _ _ _).2.2.2;have hB1:=(Bp w _ _ _ _).trans (hb1.mono (by simp;omega));obtain⟨a0,a1⟩:=cl2 C1;obtain⟨b0,b1⟩:=cl2 C2;obtain⟨r0,r1⟩:=cl2 C3;obtain⟨q0,q1⟩:=fr2 C3;simp at a0 a1 b0 b1 r0 r1;have C0:=stay hb1 (Bf w _ _ _ _).1;obtain⟨t0,t9⟩:=cl2 C0;simp at t0 t9;go_wp2_with fail
    clear a0 a1 b0 b1 r0 r1 q0 q1 t0 t9;refine(Bz l g cap _ _ _ _ _ hl (hT.below hB1)).mono ?_;rw[Aa H2];rintro e w2 ⟨rfl,hb2⟩;have hB2:=QB hB1 hb2;have D0:=stay hb2 C0;have D1:=stay hb2 C1;have D2:=stay hb2 C2;have D3:=stay hb2 C3;obtain⟨a0,a1⟩:=cl2 D1;obtain⟨b0,b1⟩:=cl2 D2;obtain⟨r0,r1⟩:=cl2 D3;obtain⟨q0,q1⟩:=fr2 D3;obtain⟨t0,t9⟩:=cl2 D0;simp at a0 a1 b0 b1 r0 r1 t0 t9;clear C0 C1 C2 C3;go_wp2_with fail
    refine bodyPost_ret (v:=.agg #[.int .i64 0,.int .i64 0]) (by simp[results,Tryz.results102,go_sem,r0,r1]) rfl ?_;exact⟨rfl,(hB2.setCell (by simp;omega) _).setCell (by simp;omega) _⟩
end Go.Proofs.YtcefiamkoincoaaGreat
