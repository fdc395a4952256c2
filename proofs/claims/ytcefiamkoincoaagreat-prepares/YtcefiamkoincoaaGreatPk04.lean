/- a part of the proof -/
import Derived.Test.YtcefiamkoincoaaGreatPk03
set_option maxRecDepth 100000
set_option maxHeartbeats 40000000
set_option linter.unusedVariables false
set_option linter.unusedSimpArgs false
namespace Go.Proofs.YtcefiamkoincoaaGreat
open Go.RowKit
theorem W4 (s:ByteArray) (i p:Int) (w:World) (hs:s.size≤maxLen) (hi0:0≤i) (hi1:i≤50000) (HP:Hid (Rf.cnt s.data.toList (i+2) 0 4=p)) (h:p<0) :
  Calls Tryz.prog 92 #[.string s,.int .i64 i] w fun e w' =>
   ∃ x0 x1 a2 n2 c2 x3 x4 x5 x6 sb a8 n8 c8 a9 n9 c9 x10 x11,e=.returned (.tuple #[.agg #[.int .i64 x0,.int .i64 x1,.slice a2 n2 c2,.int .i64 x3,.int .i64 x4,.int .i64 x5,.int .i64 x6,.string sb,.slice a8 n8 c8,.slice a9 n9 c9,.int .i64 x10,.int .i64 x11],.int .i64 (-1)])∧Below w.heap.size w w':=by
 have G1:∃ x0 x1,Rf.at' s.data.toList i=x0∧Rf.at' s.data.toList (i+1)=x1:=⟨_,_,rfl,rfl⟩;obtain⟨x0,x1,hx0,hx1⟩:=G1;have HX0:=Ac hx0;have HX1:=Ac hx1;clear hx0 hx1;go_enter Tryz.func92,Tryz.ntmps92;go_wp2_with fail
 refine(Bc s i _ hs).mono ?_;rw[Aa HX0];rintro e w0 ⟨rfl,rfl⟩;go_wp2_with fail
 refine(Bc s (i+1) _ hs).mono ?_;rw[Aa HX1];rintro e w0 ⟨rfl,rfl⟩;go_wp2_with fail
 refine(Aq s (i+2) 0 4 _ hs).mono ?_;rw[Aa HP];rintro e w0 ⟨rfl,rfl⟩;go_wp2_with fail
 refine bodyPost_ret (v:=.tuple #[.agg #[.int .i64 x0,.int .i64 x1,.slice none 0 0,.int .i64 0,.int .i64 0,.int .i64 0,.int .i64 0,.string ⟨#[]⟩,.slice none 0 0,.slice none 0 0,.int .i64 0,.int .i64 0],.int .i64 (-1)]) (by simp[results,Tryz.results92,go_sem]) rfl ?_;exact⟨x0,x1,_,_,_,_,_,_,_,_,_,_,_,_,_,_,_,_,rfl,(QN _).alloc (by simp) _⟩
theorem V6 (s:ByteArray) (i p l h n:Int) (w:World) (hs:s.size≤maxLen) (hi0:0≤i) (hi1:i≤50000) (HP:Hid (Rf.cnt s.data.toList (i+2) 0 4=p)) (HL:Hid (Rf.cnt s.data.toList (i+3+2*p+2) 0 8=l)) (HH:Hid (Rf.cnt s.data.toList (i+3+2*p+3) 0 8=h)) (HN:Hid (Rf.cnt s.data.toList (i+3+2*p+4) 1 120=n)) (hp0:0≤p) (hp1:p≤4) (hneg:l<0) :
  Calls Tryz.prog 92 #[.string s,.int .i64 i] w fun e w' =>
   ∃ x0 x1 a2 n2 c2 x3 x4 x5 x6 sb a8 n8 c8 a9 n9 c9 x10 x11,e=.returned (.tuple #[.agg #[.int .i64 x0,.int .i64 x1,.slice a2 n2 c2,.int .i64 x3,.int .i64 x4,.int .i64 x5,.int .i64 x6,.string sb,.slice a8 n8 c8,.slice a9 n9 c9,.int .i64 x10,.int .i64 x11],.int .i64 (-1)])∧Below w.heap.size w w':=by
 have G1:∃ x0 x1 ps y1 y2,Rf.at' s.data.toList i=x0∧Rf.at' s.data.toList (i+1)=x1∧Rf.tys s.data.toList (i+3) p.toNat=ps∧Rf.at' s.data.toList (i+3+2*p)=y1∧Rf.at' s.data.toList (i+3+2*p+1)=y2:=⟨_,_,_,_,_,rfl,rfl,rfl,rfl,rfl⟩;obtain⟨x0,x1,ps,y1,y2,hx0,hx1,hps,hr1,hr2⟩:=G1;have HX0:=Ac hx0;have HX1:=Ac hx1;have HPS:=Ac hps;have HR1:=Ac hr1;have HR2:=Ac hr2;clear hx0 hx1 hps hr1 hr2;go_enter Tryz.func92,Tryz.ntmps92;go_wp2_with fail
 refine(Bc s i _ hs).mono ?_;rw[Aa HX0];rintro e w0 ⟨rfl,rfl⟩;go_wp2_with fail
 refine(Bc s (i+1) _ hs).mono ?_;rw[Aa HX1];rintro e w0 ⟨rfl,rfl⟩;go_wp2_with fail
 refine(Aq s (i+2) 0 4 _ hs).mono ?_;rw[Aa HP];rintro e w0 ⟨rfl,rfl⟩;go_wp2_with fail
 refine(Bm s (i+3) p _ hs (by omega) (by omega) (by omega) (by omega)).mono ?_;rw[Aa HPS];rintro e w1 ⟨a2,c2,rfl,T1,b1⟩;have B1:=stay b1 (Ag w _ _);have C1:=stay b1 (Ah w _ _);have hB1:=(Ak w _ _).trans (b1.mono (by simp;omega));have s1:=hB1.size;have k2:=Ab B1 2;have f2:=Ae B1 2;simp at k2;go_wp2_with fail
 clear k2 f2;refine(Bm s (i+3+2*p) 1 _ hs (by omega) (by omega) (by omega) (by omega)).mono ?_;rintro e w2 ⟨ar,cr,rfl,TR,b2⟩;have B2:=stay b2 (Ai (i:=2) B1 (.slice a2 p.toNat c2));have C2:=stay b2 (Aw C1 (p:=⟨w.heap.size+1,2,none⟩) (by simp) (.slice a2 p.toNat c2));simp at B2;have hB2:=(hB1.setCell (p:=⟨w.heap.size+1,2,none⟩) (by simp) (.slice a2 p.toNat c2)).trans (b2.mono (by simp;omega));have T2:=((T1.mono (b':=w.heap.size) (by simp;omega)).kp (Kp.set (i:=2) B1 (.slice a2 p.toNat c2)) (by decide)).kp (Kp.of_below (e:=none) b2) (by decide);have s2:=hB2.size;obtain⟨gr,har,hgr,hgr2,hcr⟩:=Ao TR (by rw[Bv];decide);have r0:=hcr 0 (by simp[Am,Rf.tys]);have r1:=hcr 1 (by simp[Am,Rf.tys]);simp[Am,Rf.tys]at r0 r1;rw[Aa HR1]at r0;rw[Aa HR2]at r1;have hgne:gr≠w.heap.size+1:=by
  have hh:=lt_of_block B1;simp at hgr2;omega
 clear hcr T1 b1 b2 B1 C1 hB1 TR hgr2;subst har;obtain⟨k0,k1,k2,k3,k4,k5,k6,k7,k8,k9,k10,k11⟩:=Ap B2;obtain⟨f0,f1,f2,f3,f4,f5,f6,f7,f8,f9,f10,f11⟩:=Dj B2;obtain⟨z0,z1,z2,z3,z4,z5,z6,z7,z8,z9,z10,z11⟩:=Ap C2;obtain⟨g0,g1,g2,g3,g4,g5,g6,g7,g8,g9,g10,g11⟩:=Dj C2;simp at k0 k1 k2 k3 k4 k5 k6 k7 k8 k9 k10 k11 z0 z1 z2 z3 z4 z5 z6 z7 z8 z9 z10 z11;go_wp2_with fail
 refine(Aq s (i+3+2*p+2) 0 8 _ hs).mono ?_;rw[Aa HL];rintro e w0 ⟨rfl,rfl⟩;go_wp2_with fail
 refine(Aq s (i+3+2*p+3) 0 8 _ hs).mono ?_;rw[Aa HH];rintro e w0 ⟨rfl,rfl⟩;go_wp2_with fail
 refine(Aq s (i+3+2*p+4) 1 120 _ hs).mono ?_;rw[Aa HN];rintro e w0 ⟨rfl,rfl⟩;go_wp2_with fail
 refine bodyPost_ret (v:=.tuple #[.agg #[.int .i64 x0,.int .i64 x1,.slice a2 p.toNat c2,.int .i64 y1,.int .i64 y2,.int .i64 l,.int .i64 h,.string ⟨#[]⟩,.slice none 0 0,.slice none 0 0,.int .i64 0,.int .i64 0],.int .i64 (-1)]) (by simp[results,Tryz.results92,go_sem,z0,z1,z2,z3,z4,z5,z6,z7,z8,z9,z10,z11]) rfl ?_;exact⟨_,_,_,_,_,_,_,_,_,_,_,_,_,_,_,_,_,_,rfl,by repeat (first | refine Below.setCell ?_ (by simp) _ | exact hB2)⟩
theorem Wn (s:ByteArray) (i p l h n:Int) (w:World) (hs:s.size≤maxLen) (hi0:0≤i) (hi1:i≤50000) (HP:Hid (Rf.cnt s.data.toList (i+2) 0 4=p)) (HL:Hid (Rf.cnt s.data.toList (i+3+2*p+2) 0 8=l)) (HH:Hid (Rf.cnt s.data.toList (i+3+2*p+3) 0 8=h)) (HN:Hid (Rf.cnt s.data.toList (i+3+2*p+4) 1 120=n)) (hp0:0≤p) (hp1:p≤4) (hl0:0≤l) (hneg:h<0) :
  Calls Tryz.prog 92 #[.string s,.int .i64 i] w fun e w' =>
   ∃ x0 x1 a2 n2 c2 x3 x4 x5 x6 sb a8 n8 c8 a9 n9 c9 x10 x11,e=.returned (.tuple #[.agg #[.int .i64 x0,.int .i64 x1,.slice a2 n2 c2,.int .i64 x3,.int .i64 x4,.int .i64 x5,.int .i64 x6,.string sb,.slice a8 n8 c8,.slice a9 n9 c9,.int .i64 x10,.int .i64 x11],.int .i64 (-1)])∧Below w.heap.size w w':=by
 have G1:∃ x0 x1 ps y1 y2,Rf.at' s.data.toList i=x0∧Rf.at' s.data.toList (i+1)=x1∧Rf.tys s.data.toList (i+3) p.toNat=ps∧Rf.at' s.data.toList (i+3+2*p)=y1∧Rf.at' s.data.toList (i+3+2*p+1)=y2:=⟨_,_,_,_,_,rfl,rfl,rfl,rfl,rfl⟩;obtain⟨x0,x1,ps,y1,y2,hx0,hx1,hps,hr1,hr2⟩:=G1;have HX0:=Ac hx0;have HX1:=Ac hx1;have HPS:=Ac hps;have HR1:=Ac hr1;have HR2:=Ac hr2;clear hx0 hx1 hps hr1 hr2;go_enter Tryz.func92,Tryz.ntmps92;go_wp2_with fail
 refine(Bc s i _ hs).mono ?_;rw[Aa HX0];rintro e w0 ⟨rfl,rfl⟩;go_wp2_with fail
 refine(Bc s (i+1) _ hs).mono ?_;rw[Aa HX1];rintro e w0 ⟨rfl,rfl⟩;go_wp2_with fail
 refine(Aq s (i+2) 0 4 _ hs).mono ?_;rw[Aa HP];rintro e w0 ⟨rfl,rfl⟩;go_wp2_with fail
 refine(Bm s (i+3) p _ hs (by omega) (by omega) (by omega) (by omega)).mono ?_;rw[Aa HPS];rintro e w1 ⟨a2,c2,rfl,T1,b1⟩;have B1:=stay b1 (Ag w _ _);have C1:=stay b1 (Ah w _ _);have hB1:=(Ak w _ _).trans (b1.mono (by simp;omega));have s1:=hB1.size;have k2:=Ab B1 2;have f2:=Ae B1 2;simp at k2;go_wp2_with fail
 clear k2 f2;refine(Bm s (i+3+2*p) 1 _ hs (by omega) (by omega) (by omega) (by omega)).mono ?_;rintro e w2 ⟨ar,cr,rfl,TR,b2⟩;have B2:=stay b2 (Ai (i:=2) B1 (.slice a2 p.toNat c2));have C2:=stay b2 (Aw C1 (p:=⟨w.heap.size+1,2,none⟩) (by simp) (.slice a2 p.toNat c2));simp at B2;have hB2:=(hB1.setCell (p:=⟨w.heap.size+1,2,none⟩) (by simp) (.slice a2 p.toNat c2)).trans (b2.mono (by simp;omega));have T2:=((T1.mono (b':=w.heap.size) (by simp;omega)).kp (Kp.set (i:=2) B1 (.slice a2 p.toNat c2)) (by decide)).kp (Kp.of_below (e:=none) b2) (by decide);have s2:=hB2.size;obtain⟨gr,har,hgr,hgr2,hcr⟩:=Ao TR (by rw[Bv];decide);have r0:=hcr 0 (by simp[Am,Rf.tys]);have r1:=hcr 1 (by simp[Am,Rf.tys]);simp[Am,Rf.tys]at r0 r1;rw[Aa HR1]at r0;rw[Aa HR2]at r1;have hgne:gr≠w.heap.size+1:=by
  have hh:=lt_of_block B1;simp at hgr2;omega
 clear hcr T1 b1 b2 B1 C1 hB1 TR hgr2;subst har;obtain⟨k0,k1,k2,k3,k4,k5,k6,k7,k8,k9,k10,k11⟩:=Ap B2;obtain⟨f0,f1,f2,f3,f4,f5,f6,f7,f8,f9,f10,f11⟩:=Dj B2;obtain⟨z0,z1,z2,z3,z4,z5,z6,z7,z8,z9,z10,z11⟩:=Ap C2;obtain⟨g0,g1,g2,g3,g4,g5,g6,g7,g8,g9,g10,g11⟩:=Dj C2;simp at k0 k1 k2 k3 k4 k5 k6 k7 k8 k9 k10 k11 z0 z1 z2 z3 z4 z5 z6 z7 z8 z9 z10 z11;go_wp2_with fail
 refine(Aq s (i+3+2*p+2) 0 8 _ hs).mono ?_;rw[Aa HL];rintro e w0 ⟨rfl,rfl⟩;go_wp2_with fail
 refine(Aq s (i+3+2*p+3) 0 8 _ hs).mono ?_;rw[Aa HH];rintro e w0 ⟨rfl,rfl⟩;go_wp2_with fail
 refine(Aq s (i+3+2*p+4) 1 120 _ hs).mono ?_;rw[Aa HN];rintro e w0 ⟨rfl,rfl⟩;go_wp2_with fail
 refine bodyPost_ret (v:=.tuple #[.agg #[.int .i64 x0,.int .i64 x1,.slice a2 p.toNat c2,.int .i64 y1,.int .i64 y2,.int .i64 l,.int .i64 h,.string ⟨#[]⟩,.slice none 0 0,.slice none 0 0,.int .i64 0,.int .i64 0],.int .i64 (-1)]) (by simp[results,Tryz.results92,go_sem,z0,z1,z2,z3,z4,z5,z6,z7,z8,z9,z10,z11]) rfl ?_;exact⟨_,_,_,_,_,_,_,_,_,_,_,_,_,_,_,_,_,_,rfl,by repeat (first | refine Below.setCell ?_ (by simp) _ | exact hB2)⟩
theorem Wu (s:ByteArray) (i p l h n:Int) (w:World) (hs:s.size≤maxLen) (hi0:0≤i) (hi1:i≤50000) (HP:Hid (Rf.cnt s.data.toList (i+2) 0 4=p)) (HL:Hid (Rf.cnt s.data.toList (i+3+2*p+2) 0 8=l)) (HH:Hid (Rf.cnt s.data.toList (i+3+2*p+3) 0 8=h)) (HN:Hid (Rf.cnt s.data.toList (i+3+2*p+4) 1 120=n)) (hp0:0≤p) (hp1:p≤4) (hl0:0≤l) (hh0:0≤h) (hneg:n<0) :
  Calls Tryz.prog 92 #[.string s,.int .i64 i] w fun e w' =>
   ∃ x0 x1 a2 n2 c2 x3 x4 x5 x6 sb a8 n8 c8 a9 n9 c9 x10 x11,e=.returned (.tuple #[.agg #[.int .i64 x0,.int .i64 x1,.slice a2 n2 c2,.int .i64 x3,.int .i64 x4,.int .i64 x5,.int .i64 x6,.string sb,.slice a8 n8 c8,.slice a9 n9 c9,.int .i64 x10,.int .i64 x11],.int .i64 (-1)])∧Below w.heap.size w w':=by
 have G1:∃ x0 x1 ps y1 y2,Rf.at' s.data.toList i=x0∧Rf.at' s.data.toList (i+1)=x1∧Rf.tys s.data.toList (i+3) p.toNat=ps∧Rf.at' s.data.toList (i+3+2*p)=y1∧Rf.at' s.data.toList (i+3+2*p+1)=y2:=⟨_,_,_,_,_,rfl,rfl,rfl,rfl,rfl⟩;obtain⟨x0,x1,ps,y1,y2,hx0,hx1,hps,hr1,hr2⟩:=G1;have HX0:=Ac hx0;have HX1:=Ac hx1;have HPS:=Ac hps;have HR1:=Ac hr1;have HR2:=Ac hr2;clear hx0 hx1 hps hr1 hr2;go_enter Tryz.func92,Tryz.ntmps92;go_wp2_with fail
 refine(Bc s i _ hs).mono ?_;rw[Aa HX0];rintro e w0 ⟨rfl,rfl⟩;go_wp2_with fail
 refine(Bc s (i+1) _ hs).mono ?_;rw[Aa HX1];rintro e w0 ⟨rfl,rfl⟩;go_wp2_with fail
 refine(Aq s (i+2) 0 4 _ hs).mono ?_;rw[Aa HP];rintro e w0 ⟨rfl,rfl⟩;go_wp2_with fail
 refine(Bm s (i+3) p _ hs (by omega) (by omega) (by omega) (by omega)).mono ?_;rw[Aa HPS];rintro e w1 ⟨a2,c2,rfl,T1,b1⟩;have B1:=stay b1 (Ag w _ _);have C1:=stay b1 (Ah w _ _);have hB1:=(Ak w _ _).trans (b1.mono (by simp;omega));have s1:=hB1.size;have k2:=Ab B1 2;have f2:=Ae B1 2;simp at k2;go_wp2_with fail
 clear k2 f2;refine(Bm s (i+3+2*p) 1 _ hs (by omega) (by omega) (by omega) (by omega)).mono ?_;rintro e w2 ⟨ar,cr,rfl,TR,b2⟩;have B2:=stay b2 (Ai (i:=2) B1 (.slice a2 p.toNat c2));have C2:=stay b2 (Aw C1 (p:=⟨w.heap.size+1,2,none⟩) (by simp) (.slice a2 p.toNat c2));simp at B2;have hB2:=(hB1.setCell (p:=⟨w.heap.size+1,2,none⟩) (by simp) (.slice a2 p.toNat c2)).trans (b2.mono (by simp;omega));have T2:=((T1.mono (b':=w.heap.size) (by simp;omega)).kp (Kp.set (i:=2) B1 (.slice a2 p.toNat c2)) (by decide)).kp (Kp.of_below (e:=none) b2) (by decide);have s2:=hB2.size;obtain⟨gr,har,hgr,hgr2,hcr⟩:=Ao TR (by rw[Bv];decide);have r0:=hcr 0 (by simp[Am,Rf.tys]);have r1:=hcr 1 (by simp[Am,Rf.tys]);simp[Am,Rf.tys]at r0 r1;rw[Aa HR1]at r0;rw[Aa HR2]at r1;have hgne:gr≠w.heap.size+1:=by
  have hh:=lt_of_block B1;simp at hgr2;omega
 clear hcr T1 b1 b2 B1 C1 hB1 TR hgr2;subst har;obtain⟨k0,k1,k2,k3,k4,k5,k6,k7,k8,k9,k10,k11⟩:=Ap B2;obtain⟨f0,f1,f2,f3,f4,f5,f6,f7,f8,f9,f10,f11⟩:=Dj B2;obtain⟨z0,z1,z2,z3,z4,z5,z6,z7,z8,z9,z10,z11⟩:=Ap C2;obtain⟨g0,g1,g2,g3,g4,g5,g6,g7,g8,g9,g10,g11⟩:=Dj C2;simp at k0 k1 k2 k3 k4 k5 k6 k7 k8 k9 k10 k11 z0 z1 z2 z3 z4 z5 z6 z7 z8 z9 z10 z11;go_wp2_with fail
 refine(Aq s (i+3+2*p+2) 0 8 _ hs).mono ?_;rw[Aa HL];rintro e w0 ⟨rfl,rfl⟩;go_wp2_with fail
 refine(Aq s (i+3+2*p+3) 0 8 _ hs).mono ?_;rw[Aa HH];rintro e w0 ⟨rfl,rfl⟩;go_wp2_with fail
 refine(Aq s (i+3+2*p+4) 1 120 _ hs).mono ?_;rw[Aa HN];rintro e w0 ⟨rfl,rfl⟩;go_wp2_with fail
 refine bodyPost_ret (v:=.tuple #[.agg #[.int .i64 x0,.int .i64 x1,.slice a2 p.toNat c2,.int .i64 y1,.int .i64 y2,.int .i64 l,.int .i64 h,.string ⟨#[]⟩,.slice none 0 0,.slice none 0 0,.int .i64 0,.int .i64 0],.int .i64 (-1)]) (by simp[results,Tryz.results92,go_sem,z0,z1,z2,z3,z4,z5,z6,z7,z8,z9,z10,z11]) rfl ?_;exact⟨_,_,_,_,_,_,_,_,_,_,_,_,_,_,_,_,_,_,rfl,by repeat (first | refine Below.setCell ?_ (by simp) _ | exact hB2)⟩
theorem Wm (s:ByteArray) (i p l h n:Int) (w:World) (hs:s.size≤maxLen) (hi0:0≤i) (hi1:i≤50000) (HP:Hid (Rf.cnt s.data.toList (i+2) 0 4=p)) (HL:Hid (Rf.cnt s.data.toList (i+3+2*p+2) 0 8=l)) (HH:Hid (Rf.cnt s.data.toList (i+3+2*p+3) 0 8=h)) (HN:Hid (Rf.cnt s.data.toList (i+3+2*p+4) 1 120=n)) (hp0:0≤p) (hp1:p≤4) (hl0:0≤l) (hh0:0≤h) (hn0:0≤n) (hn1:n≤120) (hneg:(s.size:Int)<i+3+2*p+5+n) :
  Calls Tryz.prog 92 #[.string s,.int .i64 i] w fun e w' =>
   ∃ x0 x1 a2 n2 c2 x3 x4 x5 x6 sb a8 n8 c8 a9 n9 c9 x10 x11,e=.returned (.tuple #[.agg #[.int .i64 x0,.int .i64 x1,.slice a2 n2 c2,.int .i64 x3,.int .i64 x4,.int .i64 x5,.int .i64 x6,.string sb,.slice a8 n8 c8,.slice a9 n9 c9,.int .i64 x10,.int .i64 x11],.int .i64 (-1)])∧Below w.heap.size w w':=by
 have G1:∃ x0 x1 ps y1 y2,Rf.at' s.data.toList i=x0∧Rf.at' s.data.toList (i+1)=x1∧Rf.tys s.data.toList (i+3) p.toNat=ps∧Rf.at' s.data.toList (i+3+2*p)=y1∧Rf.at' s.data.toList (i+3+2*p+1)=y2:=⟨_,_,_,_,_,rfl,rfl,rfl,rfl,rfl⟩;obtain⟨x0,x1,ps,y1,y2,hx0,hx1,hps,hr1,hr2⟩:=G1;have HX0:=Ac hx0;have HX1:=Ac hx1;have HPS:=Ac hps;have HR1:=Ac hr1;have HR2:=Ac hr2;clear hx0 hx1 hps hr1 hr2;go_enter Tryz.func92,Tryz.ntmps92;go_wp2_with fail
 refine(Bc s i _ hs).mono ?_;rw[Aa HX0];rintro e w0 ⟨rfl,rfl⟩;go_wp2_with fail
 refine(Bc s (i+1) _ hs).mono ?_;rw[Aa HX1];rintro e w0 ⟨rfl,rfl⟩;go_wp2_with fail
 refine(Aq s (i+2) 0 4 _ hs).mono ?_;rw[Aa HP];rintro e w0 ⟨rfl,rfl⟩;go_wp2_with fail
 refine(Bm s (i+3) p _ hs (by omega) (by omega) (by omega) (by omega)).mono ?_;rw[Aa HPS];rintro e w1 ⟨a2,c2,rfl,T1,b1⟩;have B1:=stay b1 (Ag w _ _);have C1:=stay b1 (Ah w _ _);have hB1:=(Ak w _ _).trans (b1.mono (by simp;omega));have s1:=hB1.size;have k2:=Ab B1 2;have f2:=Ae B1 2;simp at k2;go_wp2_with fail
 clear k2 f2;refine(Bm s (i+3+2*p) 1 _ hs (by omega) (by omega) (by omega) (by omega)).mono ?_;rintro e w2 ⟨ar,cr,rfl,TR,b2⟩;have B2:=stay b2 (Ai (i:=2) B1 (.slice a2 p.toNat c2));have C2:=stay b2 (Aw C1 (p:=⟨w.heap.size+1,2,none⟩) (by simp) (.slice a2 p.toNat c2));simp at B2;have hB2:=(hB1.setCell (p:=⟨w.heap.size+1,2,none⟩) (by simp) (.slice a2 p.toNat c2)).trans (b2.mono (by simp;omega));have T2:=((T1.mono (b':=w.heap.size) (by simp;omega)).kp (Kp.set (i:=2) B1 (.slice a2 p.toNat c2)) (by decide)).kp (Kp.of_below (e:=none) b2) (by decide);have s2:=hB2.size;obtain⟨gr,har,hgr,hgr2,hcr⟩:=Ao TR (by rw[Bv];decide);have r0:=hcr 0 (by simp[Am,Rf.tys]);have r1:=hcr 1 (by simp[Am,Rf.tys]);simp[Am,Rf.tys]at r0 r1;rw[Aa HR1]at r0;rw[Aa HR2]at r1;have hgne:gr≠w.heap.size+1:=by
  have hh:=lt_of_block B1;simp at hgr2;omega
 clear hcr T1 b1 b2 B1 C1 hB1 TR hgr2;subst har;obtain⟨k0,k1,k2,k3,k4,k5,k6,k7,k8,k9,k10,k11⟩:=Ap B2;obtain⟨f0,f1,f2,f3,f4,f5,f6,f7,f8,f9,f10,f11⟩:=Dj B2;obtain⟨z0,z1,z2,z3,z4,z5,z6,z7,z8,z9,z10,z11⟩:=Ap C2;obtain⟨g0,g1,g2,g3,g4,g5,g6,g7,g8,g9,g10,g11⟩:=Dj C2;simp at k0 k1 k2 k3 k4 k5 k6 k7 k8 k9 k10 k11 z0 z1 z2 z3 z4 z5 z6 z7 z8 z9 z10 z11;go_wp2_with fail
 refine(Aq s (i+3+2*p+2) 0 8 _ hs).mono ?_;rw[Aa HL];rintro e w0 ⟨rfl,rfl⟩;go_wp2_with fail
 refine(Aq s (i+3+2*p+3) 0 8 _ hs).mono ?_;rw[Aa HH];rintro e w0 ⟨rfl,rfl⟩;go_wp2_with fail
 refine(Aq s (i+3+2*p+4) 1 120 _ hs).mono ?_;rw[Aa HN];rintro e w0 ⟨rfl,rfl⟩;go_wp2_with fail
 refine bodyPost_ret (v:=.tuple #[.agg #[.int .i64 x0,.int .i64 x1,.slice a2 p.toNat c2,.int .i64 y1,.int .i64 y2,.int .i64 l,.int .i64 h,.string ⟨#[]⟩,.slice none 0 0,.slice none 0 0,.int .i64 0,.int .i64 0],.int .i64 (-1)]) (by simp[results,Tryz.results92,go_sem,z0,z1,z2,z3,z4,z5,z6,z7,z8,z9,z10,z11]) rfl ?_;exact⟨_,_,_,_,_,_,_,_,_,_,_,_,_,_,_,_,_,_,rfl,by repeat (first | refine Below.setCell ?_ (by simp) _ | exact hB2)⟩
theorem W5 (s:ByteArray) (i p l h:Int) (j n:Nat) (hq:List Rd.Hnd × Int) (w:World) (hs:s.size≤maxLen) (hi0:0≤i) (hi1:i≤50000) (HP:Hid (Rf.cnt s.data.toList (i+2) 0 4=p)) (hj:i+3+2*p=(j:Int)) (HL:Hid (Rf.cnt s.data.toList ((j:Int)+2) 0 8=l)) (HH:Hid (Rf.cnt s.data.toList ((j:Int)+3) 0 8=h)) (HN:Hid (Rf.cnt s.data.toList ((j:Int)+4) 1 120=(n:Int))) (hp0:0≤p) (hp1:p≤4) (hl0:0≤l) (hl1:l≤8) (hh0:0≤h) (hh1:h≤8) (hn1:n≤120) (hfit:j+5+n≤s.size) (HQ:Hid (Rf.hnds s.data.toList ((j:Int)+5+(n:Int))=hq)) (hneg:hq.2<0) :
  Calls Tryz.prog 92 #[.string s,.int .i64 i] w fun e w' =>
   ∃ x0 x1 a2 n2 c2 x3 x4 x5 x6 sb a8 n8 c8 a9 n9 c9 x10 x11,e=.returned (.tuple #[.agg #[.int .i64 x0,.int .i64 x1,.slice a2 n2 c2,.int .i64 x3,.int .i64 x4,.int .i64 x5,.int .i64 x6,.string sb,.slice a8 n8 c8,.slice a9 n9 c9,.int .i64 x10,.int .i64 x11],.int .i64 (-1)])∧Below w.heap.size w w':=by
 have G1:∃ x0 x1 ps y1 y2,Rf.at' s.data.toList i=x0∧Rf.at' s.data.toList (i+1)=x1∧Rf.tys s.data.toList (i+3) p.toNat=ps∧Rf.at' s.data.toList (j:Int)=y1∧Rf.at' s.data.toList ((j:Int)+1)=y2:=⟨_,_,_,_,_,rfl,rfl,rfl,rfl,rfl⟩;obtain⟨x0,x1,ps,y1,y2,hx0,hx1,hps,hr1,hr2⟩:=G1;have HX0:=Ac hx0;have HX1:=Ac hx1;have HPS:=Ac hps;have HR1:=Ac hr1;have HR2:=Ac hr2;clear hx0 hx1 hps hr1 hr2;go_enter Tryz.func92,Tryz.ntmps92;go_wp2_with fail
 refine(Bc s i _ hs).mono ?_;rw[Aa HX0];rintro e w0 ⟨rfl,rfl⟩;go_wp2_with fail
 refine(Bc s (i+1) _ hs).mono ?_;rw[Aa HX1];rintro e w0 ⟨rfl,rfl⟩;go_wp2_with fail
 refine(Aq s (i+2) 0 4 _ hs).mono ?_;rw[Aa HP];rintro e w0 ⟨rfl,rfl⟩;go_wp2_with fail
 refine(Bm s (i+3) p _ hs (by omega) (by omega) (by omega) (by omega)).mono ?_;rw[Aa HPS];rintro e w1 ⟨a2,c2,rfl,T1,b1⟩;have B1:=stay b1 (Ag w _ _);have C1:=stay b1 (Ah w _ _);have hB1:=(Ak w _ _).trans (b1.mono (by simp;omega));have s1:=hB1.size;have k2:=Ab B1 2;have f2:=Ae B1 2;simp at k2;go_wp2_with fail
 clear k2 f2;refine(Bm s (j:Int) 1 _ hs (by omega) (by omega) (by omega) (by omega)).mono ?_;rintro e w2 ⟨ar,cr,rfl,TR,b2⟩;have B2:=stay b2 (Ai (i:=2) B1 (.slice a2 p.toNat c2));have C2:=stay b2 (Aw C1 (p:=⟨w.heap.size+1,2,none⟩) (by simp) (.slice a2 p.toNat c2));simp at B2;have hB2:=(hB1.setCell (p:=⟨w.heap.size+1,2,none⟩) (by simp) (.slice a2 p.toNat c2)).trans (b2.mono (by simp;omega));have T2:=((T1.mono (b':=w.heap.size) (by simp;omega)).kp (Kp.set (i:=2) B1 (.slice a2 p.toNat c2)) (by decide)).kp (Kp.of_below (e:=none) b2) (by decide);have s2:=hB2.size;obtain⟨gr,har,hgr,hgr2,hcr⟩:=Ao TR (by rw[Bv];decide);have r0:=hcr 0 (by simp[Am,Rf.tys]);have r1:=hcr 1 (by simp[Am,Rf.tys]);simp[Am,Rf.tys]at r0 r1;rw[Aa HR1]at r0;rw[Aa HR2]at r1;have hgne:gr≠w.heap.size+1:=by
  have hh:=lt_of_block B1;simp at hgr2;omega
 clear hcr T1 b1 b2 B1 C1 hB1 TR hgr2;subst har;obtain⟨k0,k1,k2,k3,k4,k5,k6,k7,k8,k9,k10,k11⟩:=Ap B2;obtain⟨f0,f1,f2,f3,f4,f5,f6,f7,f8,f9,f10,f11⟩:=Dj B2;obtain⟨z0,z1,z2,z3,z4,z5,z6,z7,z8,z9,z10,z11⟩:=Ap C2;obtain⟨g0,g1,g2,g3,g4,g5,g6,g7,g8,g9,g10,g11⟩:=Dj C2;simp at k0 k1 k2 k3 k4 k5 k6 k7 k8 k9 k10 k11 z0 z1 z2 z3 z4 z5 z6 z7 z8 z9 z10 z11;go_wp2_with fail
 refine(Aq s ((j:Int)+2) 0 8 _ hs).mono ?_;rw[Aa HL];rintro e w0 ⟨rfl,rfl⟩;go_wp2_with fail
 refine(Aq s ((j:Int)+3) 0 8 _ hs).mono ?_;rw[Aa HH];rintro e w0 ⟨rfl,rfl⟩;go_wp2_with fail
 refine(Aq s ((j:Int)+4) 1 120 _ hs).mono ?_;rw[Aa HN];rintro e w0 ⟨rfl,rfl⟩;have fit1:j+5≤s.size:=by omega
 have fit2:(j:Int)+5+(n:Int)≤(s.size:Int):=by omega
 go_wp2_with fail
 refine(Lz s ((j:Int)+5+(n:Int)) _ hs (by omega) (by omega)).mono ?_;rw[Aa HQ];rintro e w3 ⟨a8,n8,c8,rfl,T8,b3⟩;have B3:=stay b3 (Ai (i:=7) (Ai (i:=6) (Ai (i:=5) (Ai (i:=4) (Ai (i:=3) B2 _) _) _) _) _);have C3:=stay b3 (Aw (Aw (Aw (Aw (Aw C2 (p:=⟨w.heap.size+1,3,none⟩) (by simp) _) (p:=⟨w.heap.size+1,4,none⟩) (by simp) _) (p:=⟨w.heap.size+1,5,none⟩) (by simp) _) (p:=⟨w.heap.size+1,6,none⟩) (by simp) _) (p:=⟨w.heap.size+1,7,none⟩) (by simp) _);simp at B3;have hB3:=(((((hB2.setCell (p:=⟨w.heap.size+1,3,none⟩) (by simp) _).setCell (p:=⟨w.heap.size+1,4,none⟩) (by simp) _).setCell (p:=⟨w.heap.size+1,5,none⟩) (by simp) _).setCell (p:=⟨w.heap.size+1,6,none⟩) (by simp) _).setCell (p:=⟨w.heap.size+1,7,none⟩) (by simp) _).trans (b3.mono (by simp;omega));have T3:=(T2.kp (((((Kp.set (i:=3) B2 _).trans (Kp.set (i:=4) (Ai (i:=3) B2 _) _)).trans (Kp.set (i:=5) (Ai (i:=4) (Ai (i:=3) B2 _) _) _)).trans (Kp.set (i:=6) (Ai (i:=5) (Ai (i:=4) (Ai (i:=3) B2 _) _) _) _)).trans (Kp.set (i:=7) (Ai (i:=6) (Ai (i:=5) (Ai (i:=4) (Ai (i:=3) B2 _) _) _) _) _)) (by decide)).kp (Kp.of_below (e:=none) b3) (by decide);have s3:=hB3.size;have T8':=T8.mono (b':=w.heap.size) (by simp;omega);clear k0 f0 z0 g0 k1 f1 z1 g1 k2 f2 z2 g2 k3 f3 z3 g3 k4 f4 z4 g4 k5 f5 z5 g5 k6 f6 z6 g6 k7 f7 z7 g7 k8 f8 z8 g8 k9 f9 z9 g9 k10 f10 z10 g10 k11 f11 z11 g11 B2 C2 hB2 T2 b3 T8 r0 r1;obtain⟨k0,k1,k2,k3,k4,k5,k6,k7,k8,k9,k10,k11⟩:=Ap B3;obtain⟨f0,f1,f2,f3,f4,f5,f6,f7,f8,f9,f10,f11⟩:=Dj B3;obtain⟨z0,z1,z2,z3,z4,z5,z6,z7,z8,z9,z10,z11⟩:=Ap C3;obtain⟨g0,g1,g2,g3,g4,g5,g6,g7,g8,g9,g10,g11⟩:=Dj C3;simp at k0 k1 k2 k3 k4 k5 k6 k7 k8 k9 k10 k11 z0 z1 z2 z3 z4 z5 z6 z7 z8 z9 z10 z11;go_wp2_with fail
 refine bodyPost_ret (v:=.tuple #[.agg #[.int .i64 x0,.int .i64 x1,.slice a2 p.toNat c2,.int .i64 y1,.int .i64 y2,.int .i64 l,.int .i64 h,.string (s.extract (j+5) (j+5+n)),.slice none 0 0,.slice none 0 0,.int .i64 0,.int .i64 0],.int .i64 (-1)]) (by simp[results,Tryz.results92,go_sem,z0,z1,z2,z3,z4,z5,z6,z7,z8,z9,z10,z11]) rfl ?_;exact⟨_,_,_,_,_,_,_,_,_,_,_,_,_,_,_,_,_,_,rfl,by repeat (first | refine Below.setCell ?_ (by simp) _ | exact hB3)⟩
theorem W2 (s:ByteArray) (a b:Nat) (hab:a≤b) (hb:b<s.size):(s.extract a (b+1)).data.toList=(s.extract a b).data.toList++[s[b]]:=by
 rw[ByteArray.data_extract,ByteArray.data_extract,Array.toList_extract,Array.toList_extract,List.extract_eq_take_drop,List.extract_eq_take_drop];rw[show b+1-a=(b-a)+1 by omega,List.take_succ_eq_append_getElem (by simp;have:s.data.size=s.size:=rfl;omega)]
 congr 1
 simp
 rw[show (s[b]:UInt8)=s.data[b]'hb from rfl]
 congr 1
 omega
theorem Nk (s:ByteArray) (j n:Nat) (h:j+5+n≤s.size):(s.extract (j+5) (j+5+n)).data.toList.map (fun c=>(c.toNat:Int))=Rf.codeTo s.data.toList ((j:Int)+5) n:=by
 induction n with
 | zero=>simp[Rf.codeTo]
 | succ k ih =>
  have e:(s.extract (j+5) (j+5+(k+1))).data.toList=(s.extract (j+5) (j+5+k)).data.toList++[s[j+5+k]'(by omega)]:=by
   exact W2 s (j+5) (j+5+k) (by omega) (by omega)
  rw[e,List.map_append,ih (by omega),Rf.codeTo];have a:Rf.at' s.data.toList ((j:Int)+5+(k:Int))=_:=Fl (i:=j+5+k) (by omega);rw[a];rfl
theorem Wj (s:ByteArray) (i p l h x0 x1 y1 y2:Int) (ps:List (Int × Int)) (j n:Nat) (hq:List Rd.Hnd × Int) (mq:List Rd.Mp × Int) (w:World) (hs:s.size≤maxLen) (hi0:0≤i) (hi1:i≤50000) (HP:Hid (Rf.cnt s.data.toList (i+2) 0 4=p)) (hj:i+3+2*p=(j:Int)) (HL:Hid (Rf.cnt s.data.toList ((j:Int)+2) 0 8=l)) (HH:Hid (Rf.cnt s.data.toList ((j:Int)+3) 0 8=h)) (HN:Hid (Rf.cnt s.data.toList ((j:Int)+4) 1 120=(n:Int))) (hp0:0≤p) (hp1:p≤4) (hl0:0≤l) (hl1:l≤8) (hh0:0≤h) (hh1:h≤8) (hn1:n≤120) (hfit:j+5+n≤s.size) (HQ:Hid (Rf.hnds s.data.toList ((j:Int)+5+(n:Int))=hq)) (hq0:0≤hq.2) (hq1:hq.2≤100000) (HM:Hid (Rf.mps s.data.toList hq.2 l h=mq))
  (HX0:Hid (Rf.at' s.data.toList i=x0)) (HX1:Hid (Rf.at' s.data.toList (i+1)=x1)) (HPS:Hid (Rf.tys s.data.toList (i+3) p.toNat=ps)) (HR1:Hid (Rf.at' s.data.toList (j:Int)=y1)) (HR2:Hid (Rf.at' s.data.toList ((j:Int)+1)=y2)) :
  Calls Tryz.prog 92 #[.string s,.int .i64 i] w fun e w' =>
   ∃ a2 n2 c2 sb a8 n8 c8 a9 n9 c9,e=.returned (.tuple #[.agg #[.int .i64 x0,.int .i64 x1,.slice a2 n2 c2,.int .i64 y1,.int .i64 y2,.int .i64 l,.int .i64 h,.string sb,.slice a8 n8 c8,.slice a9 n9 c9,.int .i64 hq.2,.int .i64 mq.2],.int .i64 mq.2])∧RMthIn w' w.heap.size ⟨⟨x0,x1,ps,(y1,y2),l,h,Rf.codeTo s.data.toList ((j:Int)+5) n,hq.1,mq.1⟩,hq.2,mq.2⟩ ⟨.slice a2 n2 c2,sb,.slice a8 n8 c8,.slice a9 n9 c9⟩∧Below w.heap.size w w':=by
 go_enter Tryz.func92,Tryz.ntmps92;go_wp2_with fail
 refine(Bc s i _ hs).mono ?_;rw[Aa HX0];rintro e w0 ⟨rfl,rfl⟩;go_wp2_with fail
 refine(Bc s (i+1) _ hs).mono ?_;rw[Aa HX1];rintro e w0 ⟨rfl,rfl⟩;go_wp2_with fail
 refine(Aq s (i+2) 0 4 _ hs).mono ?_;rw[Aa HP];rintro e w0 ⟨rfl,rfl⟩;go_wp2_with fail
 refine(Bm s (i+3) p _ hs (by omega) (by omega) (by omega) (by omega)).mono ?_;rw[Aa HPS];rintro e w1 ⟨a2,c2,rfl,T1,b1⟩;have B1:=stay b1 (Ag w _ _);have C1:=stay b1 (Ah w _ _);have hB1:=(Ak w _ _).trans (b1.mono (by simp;omega));have s1:=hB1.size;have k2:=Ab B1 2;have f2:=Ae B1 2;simp at k2;go_wp2_with fail
 clear k2 f2;refine(Bm s (j:Int) 1 _ hs (by omega) (by omega) (by omega) (by omega)).mono ?_;rintro e w2 ⟨ar,cr,rfl,TR,b2⟩;have B2:=stay b2 (Ai (i:=2) B1 (.slice a2 p.toNat c2));have C2:=stay b2 (Aw C1 (p:=⟨w.heap.size+1,2,none⟩) (by simp) (.slice a2 p.toNat c2));simp at B2;have hB2:=(hB1.setCell (p:=⟨w.heap.size+1,2,none⟩) (by simp) (.slice a2 p.toNat c2)).trans (b2.mono (by simp;omega));have T2:=((T1.mono (b':=w.heap.size) (by simp;omega)).kp (Kp.set (i:=2) B1 (.slice a2 p.toNat c2)) (by decide)).kp (Kp.of_below (e:=none) b2) (by decide);have s2:=hB2.size;obtain⟨gr,har,hgr,hgr2,hcr⟩:=Ao TR (by rw[Bv];decide);have r0:=hcr 0 (by simp[Am,Rf.tys]);have r1:=hcr 1 (by simp[Am,Rf.tys]);simp[Am,Rf.tys]at r0 r1;rw[Aa HR1]at r0;rw[Aa HR2]at r1;have hgne:gr≠w.heap.size+1:=by
  have hh:=lt_of_block B1;simp at hgr2;omega
 clear hcr T1 b1 b2 B1 C1 hB1 TR hgr2;subst har;obtain⟨k0,k1,k2,k3,k4,k5,k6,k7,k8,k9,k10,k11⟩:=Ap B2;obtain⟨f0,f1,f2,f3,f4,f5,f6,f7,f8,f9,f10,f11⟩:=Dj B2;obtain⟨z0,z1,z2,z3,z4,z5,z6,z7,z8,z9,z10,z11⟩:=Ap C2;obtain⟨g0,g1,g2,g3,g4,g5,g6,g7,g8,g9,g10,g11⟩:=Dj C2;simp at k0 k1 k2 k3 k4 k5 k6 k7 k8 k9 k10 k11 z0 z1 z2 z3 z4 z5 z6 z7 z8 z9 z10 z11;go_wp2_with fail
 refine(Aq s ((j:Int)+2) 0 8 _ hs).mono ?_;rw[Aa HL];rintro e w0 ⟨rfl,rfl⟩;go_wp2_with fail
 refine(Aq s ((j:Int)+3) 0 8 _ hs).mono ?_;rw[Aa HH];rintro e w0 ⟨rfl,rfl⟩;go_wp2_with fail
 refine(Aq s ((j:Int)+4) 1 120 _ hs).mono ?_;rw[Aa HN];rintro e w0 ⟨rfl,rfl⟩;have fit1:j+5≤s.size:=by omega
 have fit2:(j:Int)+5+(n:Int)≤(s.size:Int):=by omega
 go_wp2_with fail
 refine(Lz s ((j:Int)+5+(n:Int)) _ hs (by omega) (by omega)).mono ?_;rw[Aa HQ];rintro e w3 ⟨a8,n8,c8,rfl,T8,b3⟩;have B3:=stay b3 (Ai (i:=7) (Ai (i:=6) (Ai (i:=5) (Ai (i:=4) (Ai (i:=3) B2 _) _) _) _) _);have C3:=stay b3 (Aw (Aw (Aw (Aw (Aw C2 (p:=⟨w.heap.size+1,3,none⟩) (by simp) _) (p:=⟨w.heap.size+1,4,none⟩) (by simp) _) (p:=⟨w.heap.size+1,5,none⟩) (by simp) _) (p:=⟨w.heap.size+1,6,none⟩) (by simp) _) (p:=⟨w.heap.size+1,7,none⟩) (by simp) _);simp at B3;have hB3:=(((((hB2.setCell (p:=⟨w.heap.size+1,3,none⟩) (by simp) _).setCell (p:=⟨w.heap.size+1,4,none⟩) (by simp) _).setCell (p:=⟨w.heap.size+1,5,none⟩) (by simp) _).setCell (p:=⟨w.heap.size+1,6,none⟩) (by simp) _).setCell (p:=⟨w.heap.size+1,7,none⟩) (by simp) _).trans (b3.mono (by simp;omega));have T3:=(T2.kp (((((Kp.set (i:=3) B2 _).trans (Kp.set (i:=4) (Ai (i:=3) B2 _) _)).trans (Kp.set (i:=5) (Ai (i:=4) (Ai (i:=3) B2 _) _) _)).trans (Kp.set (i:=6) (Ai (i:=5) (Ai (i:=4) (Ai (i:=3) B2 _) _) _) _)).trans (Kp.set (i:=7) (Ai (i:=6) (Ai (i:=5) (Ai (i:=4) (Ai (i:=3) B2 _) _) _) _) _)) (by decide)).kp (Kp.of_below (e:=none) b3) (by decide);have s3:=hB3.size;have T8':=T8.mono (b':=w.heap.size) (by simp;omega);clear k0 f0 z0 g0 k1 f1 z1 g1 k2 f2 z2 g2 k3 f3 z3 g3 k4 f4 z4 g4 k5 f5 z5 g5 k6 f6 z6 g6 k7 f7 z7 g7 k8 f8 z8 g8 k9 f9 z9 g9 k10 f10 z10 g10 k11 f11 z11 g11 B2 C2 hB2 T2 b3 T8 r0 r1;obtain⟨k0,k1,k2,k3,k4,k5,k6,k7,k8,k9,k10,k11⟩:=Ap B3;obtain⟨f0,f1,f2,f3,f4,f5,f6,f7,f8,f9,f10,f11⟩:=Dj B3;obtain⟨z0,z1,z2,z3,z4,z5,z6,z7,z8,z9,z10,z11⟩:=Ap C3;obtain⟨g0,g1,g2,g3,g4,g5,g6,g7,g8,g9,g10,g11⟩:=Dj C3;simp at k0 k1 k2 k3 k4 k5 k6 k7 k8 k9 k10 k11 z0 z1 z2 z3 z4 z5 z6 z7 z8 z9 z10 z11;go_wp2_with fail
 clear k0 f0 z0 g0 k1 f1 z1 g1 k2 f2 z2 g2 k3 f3 z3 g3 k4 f4 z4 g4 k5 f5 z5 g5 k6 f6 z6 g6 k7 f7 z7 g7 k8 f8 z8 g8 k9 f9 z9 g9 k10 f10 z10 g10 k11 f11 z11 g11;refine(Uo s hq.2 l h _ hs hq0 (by omega) hl0 hl1 hh0 hh1).mono ?_;rw[Aa HM];rintro e w4 ⟨a9,n9,c9,ml,rfl,hml,T9,b4⟩;have B4:=stay b4 B3;have C4:=stay b4 C3;have hB4:=hB3.trans (b4.mono s3);have T4:=T3.kp (Kp.of_below (e:=none) b4) (by decide);have T84:=T8'.kp (Kp.of_below (e:=none) b4) (by decide);have T94:=T9.mono (b':=w.heap.size) s3;have HML:=Ac hml;clear hml B3 C3 hB3 T3 T8' T9 b4;obtain⟨k0,k1,k2,k3,k4,k5,k6,k7,k8,k9,k10,k11⟩:=Ap B4;obtain⟨f0,f1,f2,f3,f4,f5,f6,f7,f8,f9,f10,f11⟩:=Dj B4;obtain⟨z0,z1,z2,z3,z4,z5,z6,z7,z8,z9,z10,z11⟩:=Ap C4;obtain⟨g0,g1,g2,g3,g4,g5,g6,g7,g8,g9,g10,g11⟩:=Dj C4;simp at k0 k1 k2 k3 k4 k5 k6 k7 k8 k9 k10 k11 z0 z1 z2 z3 z4 z5 z6 z7 z8 z9 z10 z11;go_wp2_with fail
 refine bodyPost_ret (v:=.tuple #[.agg #[.int .i64 x0,.int .i64 x1,.slice a2 p.toNat c2,.int .i64 y1,.int .i64 y2,.int .i64 l,.int .i64 h,.string (s.extract (j+5) (j+5+n)),.slice a8 n8 c8,.slice a9 n9 c9,.int .i64 hq.2,.int .i64 mq.2],.int .i64 mq.2]) (by simp[results,Tryz.results92,go_sem,z0,z1,z2,z3,z4,z5,z6,z7,z8,z9,z10,z11]) rfl ?_;have F0:=Kp.set (b:=w.heap.size) (i:=8) B4 (.slice a8 n8 c8);have P0:=Ai (i:=8) B4 (.slice a8 n8 c8);have R0:=Aw C4 (p:=⟨w.heap.size+1,8,none⟩) (by simp) (.slice a8 n8 c8);have F1:=F0.trans (Kp.set (i:=9) P0 (.slice a9 n9 c9));have P1:=Ai (i:=9) P0 (.slice a9 n9 c9);have R1:=Aw R0 (p:=⟨w.heap.size+1,9,none⟩) (by simp) (.slice a9 n9 c9);have F2:=F1.trans (Kp.set (i:=10) P1 (.int .i64 hq.2));have P2:=Ai (i:=10) P1 (.int .i64 hq.2);have R2:=Aw R1 (p:=⟨w.heap.size+1,10,none⟩) (by simp) (.int .i64 hq.2);have F3:=F2.trans (Kp.set (i:=11) P2 (.int .i64 mq.2));have P3:=Ai (i:=11) P2 (.int .i64 mq.2);have R3:=Aw R2 (p:=⟨w.heap.size+1,11,none⟩) (by simp) (.int .i64 mq.2);have F4:=F3.trans (Kp.set (i:=0) R3 (.int .i64 x0));have R4:=Ai (i:=0) R3 (.int .i64 x0);have F5:=F4.trans (Kp.set (i:=1) R4 (.int .i64 x1));have R5:=Ai (i:=1) R4 (.int .i64 x1);have F6:=F5.trans (Kp.set (i:=2) R5 (.slice a2 p.toNat c2));have R6:=Ai (i:=2) R5 (.slice a2 p.toNat c2);have F7:=F6.trans (Kp.set (i:=3) R6 (.int .i64 y1));have R7:=Ai (i:=3) R6 (.int .i64 y1);have F8:=F7.trans (Kp.set (i:=4) R7 (.int .i64 y2));have R8:=Ai (i:=4) R7 (.int .i64 y2);have F9:=F8.trans (Kp.set (i:=5) R8 (.int .i64 l));have R9:=Ai (i:=5) R8 (.int .i64 l);have F10:=F9.trans (Kp.set (i:=6) R9 (.int .i64 h));have R10:=Ai (i:=6) R9 (.int .i64 h);have F11:=F10.trans (Kp.set (i:=7) R10 (.string (s.extract (j+5) (j+5+n))));have R11:=Ai (i:=7) R10 (.string (s.extract (j+5) (j+5+n)));have F12:=F11.trans (Kp.set (i:=8) R11 (.slice a8 n8 c8));have R12:=Ai (i:=8) R11 (.slice a8 n8 c8);have F13:=F12.trans (Kp.set (i:=9) R12 (.slice a9 n9 c9));have R13:=Ai (i:=9) R12 (.slice a9 n9 c9);have F14:=F13.trans (Kp.set (i:=10) R13 (.int .i64 hq.2));have R14:=Ai (i:=10) R13 (.int .i64 hq.2);have F15:=F14.trans (Kp.set (i:=11) R14 (.int .i64 mq.2));have R15:=Ai (i:=11) R14 (.int .i64 mq.2);refine⟨_,_,_,_,_,_,_,_,_,_,rfl,⟨T4.kp F15 (by decide),Nk s j n hfit,T84.kp F15 (by decide),ml,Aa HML,T94.kp F15 (by decide) (by decide)⟩,?_⟩
 repeat (first | refine Below.setCell ?_ (by simp) _ | exact hB4)
def Gh (s:List UInt8) (i:Int) (w:World) (e:Ending) (w':World):Prop :=
 ∃ x0 x1 a2 n2 c2 x3 x4 x5 x6 sb a8 n8 c8 a9 n9 c9 x10 x11,e=.returned (.tuple #[.agg #[.int .i64 x0,.int .i64 x1,.slice a2 n2 c2,.int .i64 x3,.int .i64 x4,.int .i64 x5,.int .i64 x6,.string sb,.slice a8 n8 c8,.slice a9 n9 c9,.int .i64 x10,.int .i64 x11],.int .i64 (Rf.mth s i).2]) ∧
    (0≤(Rf.mth s i).2→[.int .i64 x0,.int .i64 x1,.slice a2 n2 c2,.int .i64 x3,.int .i64 x4,.int .i64 x5,.int .i64 x6,.string sb,.slice a8 n8 c8,.slice a9 n9 c9,.int .i64 x10,.int .i64 x11]=Cy (Rf.mth s i).1 ⟨.slice a2 n2 c2,sb,.slice a8 n8 c8,.slice a9 n9 c9⟩ ∧
     RMthIn w' w.heap.size (Rf.mth s i).1 ⟨.slice a2 n2 c2,sb,.slice a8 n8 c8,.slice a9 n9 c9⟩)∧Below w.heap.size w w'
theorem Oo (s:ByteArray) (i:Int) (w:World) (hs:s.size≤15000) (hi0:0≤i) (hi1:i≤50000) :
  Calls Tryz.prog 92 #[.string s,.int .i64 i] w fun e w'=>Gh s.data.toList i w e w':=by
 have hsm:s.size≤maxLen:=by unfold maxLen;omega
 have hlen:s.data.toList.length=s.size:=by simp
 have fail:(Rf.mth s.data.toList i).2 = -1→(Calls Tryz.prog 92 #[.string s,.int .i64 i] w fun e w' =>
   ∃ x0 x1 a2 n2 c2 x3 x4 x5 x6 sb a8 n8 c8 a9 n9 c9 x10 x11,e=.returned (.tuple #[.agg #[.int .i64 x0,.int .i64 x1,.slice a2 n2 c2,.int .i64 x3,.int .i64 x4,.int .i64 x5,.int .i64 x6,.string sb,.slice a8 n8 c8,.slice a9 n9 c9,.int .i64 x10,.int .i64 x11],.int .i64 (-1)])∧Below w.heap.size w w')→Calls Tryz.prog 92 #[.string s,.int .i64 i] w fun e w'=>Gh s.data.toList i w e w':=by
  intro hm hc;refine hc.mono ?_;rintro e w' ⟨x0,x1,a2,n2,c2,x3,x4,x5,x6,sb,a8,n8,c8,a9,n9,c9,x10,x11,rfl,hb⟩;refine⟨x0,x1,a2,n2,c2,x3,x4,x5,x6,sb,a8,n8,c8,a9,n9,c9,x10,x11,by rw[hm],fun h=>?_,hb⟩;rw[hm]at h;exact absurd h (by decide)
 have hpb:=Rf.cnt_bd s.data.toList (i+2) 0 4 (by omega);by_cases hp:Rf.cnt s.data.toList (i+2) 0 4<0
 ·refine fail ?_ (W4 s i _ w hsm hi0 hi1 (Ac rfl) hp);unfold Rf.mth;simp only;rw[if_pos hp]
 generalize hpe:Rf.cnt s.data.toList (i+2) 0 4=p at *;have hlb:=Rf.cnt_bd s.data.toList (i+3+2*p+2) 0 8 (by omega);have hhb:=Rf.cnt_bd s.data.toList (i+3+2*p+3) 0 8 (by omega);have hnb:=Rf.cnt_bd s.data.toList (i+3+2*p+4) 1 120 (by omega);by_cases hl:Rf.cnt s.data.toList (i+3+2*p+2) 0 8<0
 ·refine fail ?_ (V6 s i p _ _ _ w hsm hi0 hi1 (Ac hpe) (Ac rfl) (Ac rfl) (Ac rfl) (by omega) (by omega) hl);unfold Rf.mth;simp only;rw[hpe,if_neg hp,if_pos hl]
 by_cases hh:Rf.cnt s.data.toList (i+3+2*p+3) 0 8<0
 ·refine fail ?_ (Wn s i p _ _ _ w hsm hi0 hi1 (Ac hpe) (Ac rfl) (Ac rfl) (Ac rfl) (by omega) (by omega) (by omega) hh);unfold Rf.mth;simp only;rw[hpe,if_neg hp,if_neg hl,if_pos hh]
 by_cases hn:Rf.cnt s.data.toList (i+3+2*p+4) 1 120<0
 ·refine fail ?_ (Wu s i p _ _ _ w hsm hi0 hi1 (Ac hpe) (Ac rfl) (Ac rfl) (Ac rfl) (by omega) (by omega) (by omega) (by omega) hn);unfold Rf.mth;simp only;rw[hpe,if_neg hp,if_neg hl,if_neg hh,if_pos hn]
 by_cases hfit:(s.size:Int)<i+3+2*p+5+Rf.cnt s.data.toList (i+3+2*p+4) 1 120
 ·refine fail ?_ (Wm s i p _ _ _ w hsm hi0 hi1 (Ac hpe) (Ac rfl) (Ac rfl) (Ac rfl) (by omega) (by omega) (by omega) (by omega) (by omega) (by omega) hfit);unfold Rf.mth;simp only;rw[hpe,if_neg hp,if_neg hl,if_neg hh,if_neg hn,hlen,if_pos hfit]
 obtain⟨j,hj⟩:=Int.eq_ofNat_of_zero_le (show 0≤i+3+2*p by omega);obtain⟨n,hne⟩:=Int.eq_ofNat_of_zero_le (show 0≤Rf.cnt s.data.toList (i+3+2*p+4) 1 120 by omega);have hle:=Rf.hnds_le s.data.toList ((j:Int)+5+(n:Int));have hnle:n≤120:=by omega
 have hfit':j+5+n≤s.size:=by omega
 rw[hj]at hl hh hn hne hlb hhb hnb hfit;by_cases hq:(Rf.hnds s.data.toList ((j:Int)+5+(n:Int))).2<0
 ·refine fail ?_ (W5 s i p _ _ j n _ w hsm hi0 hi1 (Ac hpe) hj (Ac rfl) (Ac rfl) (Ac hne) (by omega) (by omega) (by omega) (by omega) (by omega) (by omega) hnle hfit' (Ac rfl) hq);unfold Rf.mth;simp only;rw[hpe,hj,if_neg hp,if_neg hl,if_neg hh,if_neg hn,hlen,if_neg hfit,hne,if_pos hq]
 have hx:Rf.mth s.data.toList i=(⟨⟨Rf.at' s.data.toList i,Rf.at' s.data.toList (i+1),Rf.tys s.data.toList (i+3) p.toNat,(Rf.at' s.data.toList (j:Int),Rf.at' s.data.toList ((j:Int)+1)),Rf.cnt s.data.toList ((j:Int)+2) 0 8,Rf.cnt s.data.toList ((j:Int)+3) 0 8,Rf.codeTo s.data.toList ((j:Int)+5) n,(Rf.hnds s.data.toList ((j:Int)+5+(n:Int))).1,
   (Rf.mps s.data.toList (Rf.hnds s.data.toList ((j:Int)+5+(n:Int))).2 (Rf.cnt s.data.toList ((j:Int)+2) 0 8) (Rf.cnt s.data.toList ((j:Int)+3) 0 8)).1⟩,(Rf.hnds s.data.toList ((j:Int)+5+(n:Int))).2,(Rf.mps s.data.toList (Rf.hnds s.data.toList ((j:Int)+5+(n:Int))).2 (Rf.cnt s.data.toList ((j:Int)+2) 0 8) (Rf.cnt s.data.toList ((j:Int)+3) 0 8)).2⟩,
   (Rf.mps s.data.toList (Rf.hnds s.data.toList ((j:Int)+5+(n:Int))).2 (Rf.cnt s.data.toList ((j:Int)+2) 0 8) (Rf.cnt s.data.toList ((j:Int)+3) 0 8)).2):=by
  unfold Rf.mth;simp only;rw[hpe,hj,if_neg hp,if_neg hl,if_neg hh,if_neg hn,hlen,if_neg hfit,hne,if_neg hq];rfl
 unfold Gh;rw[hx];refine(Wj s i p _ _ _ _ _ _ _ j n _ _ w hsm hi0 hi1 (Ac hpe) hj (Ac rfl) (Ac rfl) (Ac hne) (by omega) (by omega) (by omega) (by omega) (by omega) (by omega) hnle hfit' (Ac rfl) (by omega) (by omega) (Ac rfl) (Ac rfl) (Ac rfl) (Ac rfl) (Ac rfl) (Ac rfl)).mono ?_;rintro e w' ⟨a2,n2,c2,sb,a8,n8,c8,a9,n9,c9,rfl,hin,hb⟩;exact⟨_,_,_,_,_,_,_,_,_,_,_,_,_,_,_,_,_,_,rfl,fun _=>⟨rfl,hin⟩,hb⟩
theorem Tryz.infoRClass:(Tryz.prog.info? 167).map (fun i=>(i.zero,i.size,i.bytes))=some (some (.agg #[.int .i64 0,.slice none 0 0]),2,32):=by kernel_rfl
theorem Tryz.infoRMethod:(Tryz.prog.info? 52).map (fun i=>(i.zero,i.size,i.bytes))=some (some (.agg #[.int .i64 0,.int .i64 0,.slice none 0 0,.int .i64 0,.int .i64 0,.int .i64 0,.int .i64 0,.string ⟨#[]⟩,.slice none 0 0,.slice none 0 0,.int .i64 0,.int .i64 0]),12,152):=by kernel_rfl
def Rf.given:List Rd.Cls:=[⟨-1,[]⟩,⟨0,[]⟩,⟨1,[]⟩,⟨1,[]⟩,⟨1,[]⟩,⟨1,[]⟩,⟨1,[]⟩]
def givenV:List (Rd.Cls × Value):=Rf.given.map fun c=>(c,.slice none 0 0)
theorem Mj (w:World) :
  Calls Tryz.prog 88 #[] w fun e w'=>∃ a c,e=.returned (.slice a 7 c)∧RClssIn w' w.heap.size (.slice a 7 c) givenV∧Below w.heap.size w w':=by
 obtain⟨i0,hi,hz0,hz1,hz2⟩:=info_parts Tryz.infoRClass;go_enter Tryz.func88,Tryz.ntmps88;go_wp2
 go_loopw [1] (fun v wr=>∃ k:Nat,2≤k∧k≤7∧wr.ownsRow w.heap.size 167 2 v k (By (givenV.take k))∧Dk v=k∧Below w.heap.size w wr)
  (fun v _=>7-Dk v)
 case atStart =>
  refine⟨2,by omega,by omega,?_,rfl,QN _⟩;exact⟨rfl,.inr ⟨w.heap.size,2,#[.int .i64 (-1),.slice none 0 0,.int .i64 0,.slice none 0 0],rfl,Nat.le_refl _,Ad w _,by omega,by unfold maxLen;omega,rfl,rfl⟩⟩
 case round =>
  obtain⟨k,hk0,hk1,hown,hlen,hbl⟩:=hrel;obtain⟨va,vc,rfl⟩:=Af hown;clear hlen;have hsz:=hbl.size;by_cases hkn:k<7
  ·generalize hxs:By (givenV.take k)=xs at hown;have HE:Hid (By (givenV.take (k+1))=xs++[.int .i64 1,.slice none 0 0]):=by
    unfold Hid;rw[← hxs]
    match k,hk0,hkn with
    | 2,_,_=>rfl
    | 3,_,_=>rfl
    | 4,_,_=>rfl
    | 5,_,_=>rfl
    | 6,_,_=>rfl
   clear hxs;go_wp2_with (at_builtin;refine wpList_append_own _ rfl _ _ 41 rfl w.heap.size 167 i0 _ 2 32 Tryz.underlying41 hi hz0 hz1 hz2 rfl (by decide) _ _ _ rfl (hown.alloc _) ⟨wr.heap.size,0,none⟩ 1 1 [.int .i64 1,.slice none 0 0] rfl rfl ?c1 ?c2 ?c3 ?c4 ?c5 ?_)
   case c1=>exact Au _ _ _ _ rfl
   case c2=>intro u hu;simp at hu;rcases hu with rfl | rfl<;>rfl
   case c3=>unfold maxLen;omega
   case c4=>omega
   case c5=>simp;omega
   intro v' w2 hown2 hgrow _;obtain⟨va',vc',rfl⟩:=Af hown2;have hown3:w2.ownsRow w.heap.size 167 2 (.slice va' (k+1) vc') (k+1) (By (givenV.take (k+1))):=by rw[Aa HE];exact hown2
   have hbl2:=(hbl.alloc hsz (O10 1 none 0 0)).grown hgrow (by simp;omega) (fun j hj=>(hown.lt j hj).1);clear hgrow hown hown2 hbl;go_wp2
   go_roundw
   case rel=>exact⟨k+1,by omega,by omega,hown3,rfl,hbl2⟩
   case measure=>simp[Dk];omega
  ·obtain rfl:k=7:=by omega
   go_wp2;go_ret;refine⟨_,_,rfl,⟨hown,?_⟩,hbl⟩;intro p hp;have:p.2=.slice none 0 0∧p.1.fields=[]:=by
    simp[givenV,Rf.given]at hp;rcases hp with rfl | rfl | rfl<;>exact⟨rfl,rfl⟩
   rw[this.1,this.2];exact World.ownsRow_nil _ _ _ _
theorem Zi (s:List UInt8) (i L H:Int) (hL0:0≤L) (hL:L≤8) (hH:H≤8):(Rf.mps s i L H).2≤i+2200∨(Rf.mps s i L H).2<0:=by
 have rl:∀ k:Nat,(Rf.rep (Rf.mp s L H) k (i+1)).2≤i+1+34*(k:Int)∨(Rf.rep (Rf.mp s L H) k (i+1)).2<0:=by
  intro k
  induction k with
  | zero=>left;simp[Rf.rep]
  | succ k ih =>
   unfold Rf.rep
   split
   ·right;simp
   ·split
    ·right;simp
    ·rename_i h1 h2;have:=(Xm (s:=s) (L:=L) (H:=H) (i:=(Rf.rep (Rf.mp s L H) k (i+1)).2) (by omega) hH hL hL0).1
     left
     simp only;omega
 unfold Rf.mps
 split
 ·right;simp
 ·have hb:=Rf.cnt_bd s i 0 64 (by omega);have:=rl (Rf.cnt s i 0 64).toNat;omega
theorem Yx (s:List UInt8) (i:Int):(Rf.mth s i).2≤(s.length:Int)+2200:=by
 unfold Rf.mth;simp only
 split
 ·simp only;omega
 split
 ·simp only;omega
 split
 ·simp only;omega
 split
 ·simp only;omega
 split
 ·simp only;omega
 split
 ·simp only;omega
 simp only;generalize hj:i+3+2*Rf.cnt s (i+2) 0 4=j at *;have h1:=Rf.cnt_bd s (j+2) 0 8 (by omega);have h2:=Rf.cnt_bd s (j+3) 0 8 (by omega);have h3:=Rf.hnds_le s (j+5+Rf.cnt s (j+4) 1 120);have:=Zi s (Rf.hnds s (j+5+Rf.cnt s (j+4) 1 120)).2 (Rf.cnt s (j+2) 0 8) (Rf.cnt s (j+3) 0 8) (by omega) h1.2 h2.2;omega
theorem Zb (s:List UInt8) (i:Int):(Rf.cls s i).2≤i+10∨(Rf.cls s i).2<0:=by
 unfold Rf.cls
 split
 ·right;simp
 ·have:=Rf.cnt_bd s (i+1) 0 4 (by omega)
  left
  simp only;omega
def Cw (s:List UInt8) (w:World) (e:Ending) (w':World):Prop :=
 ∃ a1 n1 c1 a2 n2 c2,e=.returned (.tuple #[.agg #[.slice a1 n1 c1,.slice a2 n2 c2],.bool ((Rf.fil s).2.2==(s.length:Int))]) ∧
  ((Rf.fil s).2.2=(s.length:Int)→∃ l1 l2,l1.map Prod.fst=Rf.given++(Rf.fil s).1∧RClssIn w' w.heap.size (.slice a1 n1 c1) l1∧l2.map Prod.fst=(Rf.fil s).2.1∧RMthsIn w' w.heap.size (.slice a2 n2 c2) l2)∧Below w.heap.size w w'
theorem Jt (s:ByteArray) (w:World) (x y n:Int) (hs:s.size≤maxLen) (HX:Hid (Rf.at' s.data.toList 0=x)) (HY:Hid (Rf.at' s.data.toList 1=y)) (HN:Hid (Rf.cnt s.data.toList 2 0 6=n)) (h:(x != 83)=true∨((x != 83)=false∧(y != 77)=true)∨((x != 83)=false∧(y != 77)=false∧n<0)) :
  Calls Tryz.prog 48 #[.string s] w fun e w'=>∃ a1 n1 c1 a2 n2 c2,e=.returned (.tuple #[.agg #[.slice a1 n1 c1,.slice a2 n2 c2],.bool false])∧Below w.heap.size w w':=by
 rcases h with h1|⟨h1,h2⟩|⟨h1,h2,h3⟩
 all_goals
  go_enter Tryz.func48,Tryz.ntmps48;go_wp2_with fail
  refine(Mj _).mono ?_;rintro e w1 ⟨ga,gc,rfl,hg,hb1⟩;have C1:=stay hb1 (Ad w _);have hB1:=((Below.refl w.heap.size w).alloc (Nat.le_refl _) _).trans (hb1.mono (by simp));have lt1:=lt_of_block C1;obtain⟨z0,z1⟩:=cl2 C1;obtain⟨g0,g1⟩:=fr2 C1;simp at z0 z1;have s1:=hB1.size;go_wp2_with fail
  refine(Bc s 0 _ hs).mono ?_;rw[Aa HX];rintro e w0 ⟨rfl,rfl⟩;go_wp2_with fail
  refine(Bc s 1 _ hs).mono ?_;rw[Aa HY];rintro e w0 ⟨rfl,rfl⟩;go_wp2_with fail
  refine(Aq s 2 0 6 _ hs).mono ?_;rw[Aa HN];rintro e w0 ⟨rfl,rfl⟩;go_wp2_with fail
  refine bodyPost_ret (v:=.tuple #[.agg #[.slice ga 7 gc,.slice none 0 0],.bool false]) (by simp[results,Tryz.results48,go_sem,z0,z1,lt1]) rfl ?_;exact⟨_,_,_,_,_,_,rfl,by repeat (first | refine Below.alloc ?_ (by simp;omega) _ | refine Below.setCell ?_ (by simp) _ | exact hB1)⟩
theorem Tt (s:ByteArray) (w:World) (n:Int) (hsz:s.size≤15000) (HX:Hid (Rf.at' s.data.toList 0=83)) (HY:Hid (Rf.at' s.data.toList 1=77)) (HN:Hid (Rf.cnt s.data.toList 2 0 6=n)) (hn0:0≤n) (hn1:n≤6) :
  Calls Tryz.prog 48 #[.string s] w fun e w'=>Cw s.data.toList w e w':=by
 have hs:s.size≤maxLen:=by unfold maxLen;omega
 have hlen:s.data.toList.length=s.size:=by simp
 obtain⟨i0,hi,hz0,hz1,hz2⟩:=info_parts Tryz.infoRClass;obtain⟨j0,hj,hy0,hy1,hy2⟩:=info_parts Tryz.infoRMethod
 -- the document's answer, by its stages
 have hfil:Rf.fil s.data.toList=(if (Rf.rep (Rf.cls s.data.toList) n.toNat 3).2<0 then ([],[],-1)
   else if Rf.cnt s.data.toList (Rf.rep (Rf.cls s.data.toList) n.toNat 3).2 1 6<0 then ([],[],-1)
   else if (Rf.rep (Rf.mth s.data.toList) (Rf.cnt s.data.toList (Rf.rep (Rf.cls s.data.toList) n.toNat 3).2 1 6).toNat ((Rf.rep (Rf.cls s.data.toList) n.toNat 3).2+1)).2<0 then ([],[],-1)
   else ((Rf.rep (Rf.cls s.data.toList) n.toNat 3).1,(Rf.rep (Rf.mth s.data.toList) (Rf.cnt s.data.toList (Rf.rep (Rf.cls s.data.toList) n.toNat 3).2 1 6).toNat ((Rf.rep (Rf.cls s.data.toList) n.toNat 3).2+1)).1,(Rf.rep (Rf.mth s.data.toList) (Rf.cnt s.data.toList (Rf.rep (Rf.cls s.data.toList) n.toNat 3).2 1 6).toNat ((Rf.rep (Rf.cls s.data.toList) n.toNat 3).2+1)).2)):=by
  unfold Rf.fil;simp only;rw[if_neg (by rw[Aa HX];decide),if_neg (by rw[Aa HY];decide),Aa HN,if_neg (by omega)]
 unfold Cw;rw[hlen];generalize hF:Rf.fil s.data.toList=F at *;have HF:=Ac hfil;clear hfil hF;go_enter Tryz.func48,Tryz.ntmps48;go_wp2_with fail
 refine(Mj _).mono ?_;rintro e w1 ⟨ga,gc,rfl,hg,hb1⟩;have C1:=stay hb1 (Ad w _);have hB1:=((Below.refl w.heap.size w).alloc (Nat.le_refl _) _).trans (hb1.mono (by simp));have lt1:=lt_of_block C1;have s1:=hB1.size;have hg1:=hg.mono (b':=w.heap.size) (by simp);go_wp2_with fail
 refine(Bc s 0 _ hs).mono ?_;rw[Aa HX];rintro e w0 ⟨rfl,rfl⟩;go_wp2_with fail
 refine(Bc s 1 _ hs).mono ?_;rw[Aa HY];rintro e w0 ⟨rfl,rfl⟩;go_wp2_with fail
 refine(Aq s 2 0 6 _ hs).mono ?_;rw[Aa HN];rintro e w0 ⟨rfl,rfl⟩;have D0:=Ad w1 (O11 ga 7 gc none 0 0);have hB2:=hB1.alloc s1 (O11 ga 7 gc none 0 0);have C2:=Aj C1 (O11 ga 7 gc none 0 0);have hg2:=hg1.kp (Kp.alloc (e:=none) w1 (O11 ga 7 gc none 0 0)) (by decide) (by decide);clear hg hg1 hb1 hB1 C1;go_wp2
 go_loopw [8,9] (fun p j wr=>∃ (k:Nat) (q:Int) (v:Value) (l:List (Rd.Cls × Value)),(k:Int)≤n∧j=.int .i64 k∧p=.int .i64 q∧0≤q∧q≤3+10*(k:Int)∧l.length=7+k∧Hid (Rf.rep (Rf.cls s.data.toList) k 3=((l.map Prod.fst).drop 7,q)∧(l.map Prod.fst).take 7=Rf.given)∧RClssIn wr w.heap.size v l ∧
   wr.heap[w1.heap.size]?=some (.cells #[v,.slice none 0 0] 44 (0,0))∧wr.heap[w.heap.size]?=some (O11 none 0 0 none 0 0)∧Below w.heap.size w wr)
  (fun _ j _=>n.toNat-(intOf j).toNat)
 case atStart=>exact⟨0,3,_,givenV,by omega,rfl,rfl,by omega,by omega,rfl,⟨rfl,rfl⟩,hg2,D0,C2,hB2⟩
 case round =>
  clear hg2 D0 C2 hB2;obtain⟨k,q,v,l,hk,rfl,rfl,hq0,hq1,hll,HQ,hcs,hD,hC,hbl⟩:=hrel;obtain⟨va,vc,rfl⟩:=Af hcs.1;have hsw:=hbl.size;have ltD:=lt_of_block hD;have ltC:=lt_of_block hC;have HLL:=Ac hll;have hl13:l.length≤13:=by omega
  clear hll;by_cases hkn:(k:Int)<n
  ·generalize hc:Rf.cls s.data.toList q=c at *;have hcl:=Zb s.data.toList q;rw[hc]at hcl;by_cases hneg:c.2<0
   ·have hFF:F=([],[],-1):=by
     rw[Aa HF,Jv (k:=k) (by rw[(Aa HQ).1];exact hq0) (by rw[(Aa HQ).1];rw[hc];exact hneg) _ (by omega),if_pos (by decide)]
    have HFF:=Ac hFF;have Hc:=Ac hc;clear hFF hc;go_wp2_with fail
    refine(La s q _ hs hq0 (by omega)).mono ?_;rw[Aa Hc];rintro e w3 ⟨x,ua,un,uc,rfl,_,hb3⟩;have hB3:=hbl.trans (hb3.mono hsw);have s3:=hB3.size;have D3:=stay hb3 hD;have C3:=stay hb3 hC;have l3:=lt_of_block D3;have l4:=lt_of_block C3;obtain⟨d0,d1⟩:=cl2 D3;obtain⟨z0,z1⟩:=cl2 C3;obtain⟨g0,g1⟩:=fr2 C3;simp at d0 d1 z0 z1;go_wp2_with fail
    refine bodyPost_ret (v:=.tuple #[.agg #[.slice va l.length vc,.slice none 0 0],.bool false]) (by simp[results,Tryz.results48,go_sem,z0,z1,l4]) rfl ?_;rw[Aa HFF];refine⟨va,l.length,vc,none,0,0,?_,fun h=>?_,by repeat (first | refine Below.alloc ?_ (by simp;omega) _ | refine Below.setCell ?_ (by simp) _ | exact hB3)⟩
    ·rw[show ((-1:Int)==(s.size:Int))=false by first | (simp;done) | (simp;omega)]
    ·exfalso;simp only at h;omega
   ·have HE:Hid (Rf.rep (Rf.cls s.data.toList) (k+1) 3=((l.map Prod.fst).drop 7++[c.1],c.2)):=Rf.rep_step (Aa HQ).1 hq0 hc (by omega);have Hc:=Ac hc;clear hc;go_wp2_with fail
    refine(La s q _ hs hq0 (by omega)).mono ?_;rw[Aa Hc];rintro e w3 ⟨x,ua,un,uc,rfl,hx,hb3⟩;obtain⟨rfl,ht3⟩:=hx (by omega);have hB3:=hbl.trans (hb3.mono hsw);have s3:=hB3.size;have D3:=stay hb3 hD;have C3:=stay hb3 hC;have l3:=lt_of_block D3;have hcs3:=hcs.kp (Kp.of_below (e:=none) hb3) (by decide) (by decide);have T3:=ht3.mono hsw;have d0:=Ab D3 0;have f0:=Ae D3 0;simp at d0;have HCs:=Ac hcs3.2;have hown:=hcs3.1;clear hcs hcs3 ht3 hb3 hD hC hbl hx;go_wp2_with (at_builtin;refine wpList_append_own _ rfl _ _ 41 rfl w.heap.size 167 i0 _ 2 32 Tryz.underlying41 hi hz0 hz1 hz2 rfl (by decide) _ _ _ rfl ((hown.alloc _).alloc _) ⟨w3.heap.size+1,0,none⟩ 1 1 [.int .i64 c.1.above,.slice ua un uc] rfl rfl ?c1 ?c2 ?c3 ?c4 ?c5 ?_)
    case c1=>exact Au _ _ _ _ (by simp)
    case c2=>intro u hu;simp at hu;rcases hu with rfl | rfl<;>rfl
    case c3=>unfold maxLen;omega
    case c4=>omega
    case c5=>simp;omega
    intro v' w5 hown2 hgrow _;obtain⟨va',vc',rfl⟩:=Af hown2;have hbl5:=((hB3.alloc s3 _).alloc (by simp;omega) _).grown hgrow (by simp;omega) (fun j hj=>(hown.lt j hj).1);have hK:=((Kp.alloc (e:=some 167) (b:=0) _ _).trans (Kp.alloc _ _)).trans (Kp.of_grown hgrow ((hown.alloc _).alloc _));have hD5:=hK _ _ _ (Nat.zero_le _) D3 (by decide);have hC5:=hK _ _ _ (Nat.zero_le _) C3 (by decide);have x1:=Ab hD5 0;have f1:=Ae hD5 0;simp at x1;have hK':Kp (some 167) w.heap.size w3 w5:=fun k cs t _ hc ht=>hK k cs t (Nat.zero_le _) hc ht;have hset:=Kp.set (b:=w.heap.size) (i:=0) hD5 (.slice va' (l.length+1) vc');have hcs5:RClssIn (w5.setCell ⟨w1.heap.size,0,none⟩ (.slice va' (l.length+1) vc')) w.heap.size (.slice va' (l.length+1) vc') (l++[(c.1,.slice ua un uc)]):=by
     refine⟨?_,?_⟩
     ·rw[Jc,List.length_append];exact Av hown2 hset (by decide)
     ·intro p hp;rw[List.mem_append]at hp;rcases hp with hp | hp
      ·exact((Aa HCs p hp).kp hK' (by decide)).kp hset (by decide)
      ·simp only[List.mem_singleton]at hp;subst hp;exact(T3.kp hK' (by decide)).kp hset (by decide)
    have HD:=Ai (i:=0) hD5 (.slice va' (l.length+1) vc');have HC:=Aw hC5 (p:=⟨w1.heap.size,0,none⟩) (by simp;omega) (.slice va' (l.length+1) vc');have HL7:Hid (7≤(l.map Prod.fst).length):=by unfold Hid;rw[List.length_map,Aa HLL];omega
    clear hgrow hown hown2 hK hK' D3 C3 hB3 hset T3;go_wp2
    go_roundw
    case rel =>
     refine⟨k+1,_,_,_,by omega,by go_num,rfl,by omega,by omega,by rw[List.length_append,Aa HLL];simp;omega,⟨?_,?_⟩,hcs5,HD,HC,hbl5.setCell (by simp;omega) _⟩
     ·rw[Aa HE,List.map_append,List.drop_append_of_le_length (Aa HL7)];rfl
     ·rw[List.map_append,List.take_append_of_le_length (Aa HL7)];exact(Aa HQ).2
    case measure=>simp[intOf];omega
  ·obtain rfl:k=n.toNat:=by omega
   have hrep:Rf.rep (Rf.cls s.data.toList) n.toNat 3=((l.map Prod.fst).drop 7,q):=(Aa HQ).1;generalize hm:Rf.cnt s.data.toList q 1 6=m at *;have hmb:=Rf.cnt_bd s.data.toList q 1 6 (by omega);rw[hm]at hmb;obtain⟨hm0,hm1⟩:=hmb;have hF1:=Aa HF;rw[hrep,if_neg (by simp only;omega)]at hF1;simp only at hF1;rw[hm]at hF1;have HM:=Ac hm;have HLG:=Ac (Aa HQ).2;clear hm hrep HQ HF HLL;by_cases hneg:m<0
   ·rw[if_pos hneg]at hF1;have HFF:=Ac hF1;clear hF1;obtain⟨d0,d1⟩:=cl2 hD;obtain⟨z0,z1⟩:=cl2 hC;obtain⟨g0,g1⟩:=fr2 hC;simp at d0 d1 z0 z1;go_wp2_with fail
    refine(Aq s q 1 6 _ hs).mono ?_;rw[Aa HM];rintro e w0 ⟨rfl,rfl⟩;go_wp2_with fail
    refine bodyPost_ret (v:=.tuple #[.agg #[.slice va l.length vc,.slice none 0 0],.bool false]) (by simp[results,Tryz.results48,go_sem,z0,z1]) rfl ?_;rw[Aa HFF];refine⟨va,l.length,vc,none,0,0,?_,fun h=>?_,by repeat (first | refine Below.setCell ?_ (by simp) _ | exact hbl)⟩
    ·rw[show ((-1:Int)==(s.size:Int))=false by first | (simp;done) | (simp;omega)]
    ·exfalso;simp only at h;omega
   ·rw[if_neg hneg]at hF1;have HFF:=Ac hF1;clear hF1;go_wp2_with fail
    refine(Aq s q 1 6 _ hs).mono ?_;rw[Aa HM];rintro e w0 ⟨rfl,rfl⟩;go_wp2
    go_loopw [8,12] (fun p j w3=>∃ (k:Nat) (t:Int) (v:Value) (ml:List (Rf.Mth × RMthV)),(k:Int)≤m∧j=.int .i64 k∧p=.int .i64 t∧0≤t∧t≤20000∧ml.length=k∧Hid (Rf.rep (Rf.mth s.data.toList) k (q+1)=(ml.map Prod.fst,t))∧RMthsIn w3 w.heap.size v ml∧RClssIn w3 w.heap.size (.slice va l.length vc) l ∧
      w3.heap[w1.heap.size]?=some (.cells #[.slice va l.length vc,v] 44 (0,0))∧w3.heap[w.heap.size]?=some (O11 none 0 0 none 0 0)∧Below w.heap.size w w3)
     (fun _ j _=>m.toNat-(intOf j).toNat)
    case atStart=>exact⟨0,_,_,[],by omega,rfl,rfl,by omega,by omega,rfl,rfl,⟨World.ownsRow_nil _ _ _ _,by simp⟩,hcs,hD,hC,hbl⟩
    case round =>
     clear hcs hD hC hbl ltD ltC hsw;obtain⟨k,t,v,ml,hk,rfl,rfl,ht0,ht1,hll,HT,hms,hcs,hD,hC,hbl⟩:=hrel;obtain⟨vb,vd,rfl⟩:=Af hms.1;have hsw:=hbl.size;have ltD:=lt_of_block hD;have ltC:=lt_of_block hC;have HLL:=Ac hll;have hml6:ml.length≤6:=by omega
     clear hll;by_cases hkn:(k:Int)<m
     ·generalize hc:Rf.mth s.data.toList t=c at *;have hcl:=Yx s.data.toList t;rw[hc,hlen]at hcl;by_cases hneg2:c.2<0
      ·have hFF:F=([],[],-1):=by
        rw[Aa HFF,Jv (k:=k) (by rw[Aa HT];exact ht0) (by rw[Aa HT];rw[hc];exact hneg2) _ (by omega),if_pos (by decide)]
       have HF2:=Ac hFF;have Hc:=Ac hc;clear hFF hc HFF;go_wp2_with fail
       refine(Oo s t _ hsz ht0 (by omega)).mono ?_;unfold Gh;rw[Aa Hc];rintro e w3 ⟨x0,x1,a2,n2,c2,x3,x4,x5,x6,sb,a8,n8,c8,a9,n9,c9,x10,x11,rfl,_,hb3⟩;have hB3:=hbl.trans (hb3.mono hsw);have s3:=hB3.size;have D3:=stay hb3 hD;have C3:=stay hb3 hC;have l3:=lt_of_block D3;have l4:=lt_of_block C3;obtain⟨d0,d1⟩:=cl2 D3;obtain⟨z0,z1⟩:=cl2 C3;obtain⟨g0,g1⟩:=fr2 C3;simp at d0 d1 z0 z1;go_wp2_with fail
       refine bodyPost_ret (v:=.tuple #[.agg #[.slice va l.length vc,.slice vb ml.length vd],.bool false]) (by simp[results,Tryz.results48,go_sem,z0,z1,l4]) rfl ?_;rw[Aa HF2];refine⟨va,l.length,vc,vb,ml.length,vd,?_,fun h=>?_,by repeat (first | refine Below.alloc ?_ (by simp;omega) _ | refine Below.setCell ?_ (by simp) _ | exact hB3)⟩
       ·rw[show ((-1:Int)==(s.size:Int))=false by first | (simp;done) | (simp;omega)]
       ·exfalso;simp only at h;omega
      ·have HE:Hid (Rf.rep (Rf.mth s.data.toList) (k+1) (q+1)=(ml.map Prod.fst++[c.1],c.2)):=Rf.rep_step (Aa HT) ht0 hc (by omega);have Hc:=Ac hc;clear hc;go_wp2_with fail
       refine(Oo s t _ hsz ht0 (by omega)).mono ?_;unfold Gh;rw[Aa Hc];rintro e w3 ⟨x0,x1,a2,n2,c2,x3,x4,x5,x6,sb,a8,n8,c8,a9,n9,c9,x10,x11,rfl,hx,hb3⟩;obtain⟨Bb,hin⟩:=hx (by omega);have HCells:=Ac Bb;have hB3:=hbl.trans (hb3.mono hsw);have s3:=hB3.size;have D3:=stay hb3 hD;have C3:=stay hb3 hC;have l3:=lt_of_block D3;have hms3:=hms.kp (Kp.of_below (e:=none) hb3) (by decide) (by decide) (by decide) (by decide);have hcs3:=hcs.kp (Kp.of_below (e:=none) hb3) (by decide) (by decide);have T3:=hin.mono hsw;have d0:=Ab D3 1;have f0:=Ae D3 1;simp at d0;have HMs:=Ac hms3.2;have hown:=hms3.1;clear hms hms3 hin hb3 hD hC hbl hx Bb hcs;go_wp2_with (at_builtin;refine wpList_append_own _ rfl _ _ 42 rfl w.heap.size 52 j0 _ 12 152 Tryz.underlying42 hj hy0 hy1 hy2 rfl (by decide) _ _ _ rfl ((hown.alloc _).alloc _) ⟨w3.heap.size+1,0,none⟩ 1 1 [.int .i64 x0,.int .i64 x1,.slice a2 n2 c2,.int .i64 x3,.int .i64 x4,.int .i64 x5,.int .i64 x6,.string sb,.slice a8 n8 c8,.slice a9 n9 c9,.int .i64 x10,.int .i64 x11] rfl rfl ?d1 ?d2 ?d3 ?d4 ?d5 ?_)
       case d1=>exact Au _ _ _ _ (by simp)
       case d2=>intro u hu;simp at hu;rcases hu with rfl | rfl | rfl | rfl | rfl | rfl | rfl | rfl | rfl | rfl | rfl | rfl<;>rfl
       case d3=>unfold maxLen;omega
       case d4=>omega
       case d5=>simp;omega
       intro v' w5 hown2 hgrow _;obtain⟨va',vc',rfl⟩:=Af hown2;have hbl5:=((hB3.alloc s3 _).alloc (by simp;omega) _).grown hgrow (by simp;omega) (fun j hj=>(hown.lt j hj).1);have hK:=((Kp.alloc (e:=some 52) (b:=0) _ _).trans (Kp.alloc _ _)).trans (Kp.of_grown hgrow ((hown.alloc _).alloc _));have hD5:=hK _ _ _ (Nat.zero_le _) D3 (by decide);have hC5:=hK _ _ _ (Nat.zero_le _) C3 (by decide);have x1':=Ab hD5 1;have f1:=Ae hD5 1;simp at x1';have hK':Kp (some 52) w.heap.size w3 w5:=fun k cs t _ hc ht=>hK k cs t (Nat.zero_le _) hc ht;have hset:=Kp.set (b:=w.heap.size) (i:=1) hD5 (.slice va' (ml.length+1) vc');have hms5:RMthsIn (w5.setCell ⟨w1.heap.size,1,none⟩ (.slice va' (ml.length+1) vc')) w.heap.size (.slice va' (ml.length+1) vc') (ml++[(c.1,⟨.slice a2 n2 c2,sb,.slice a8 n8 c8,.slice a9 n9 c9⟩)]):=by
        refine⟨?_,?_⟩
        ·rw[M5,List.length_append,← Aa HCells];exact Av hown2 hset (by decide)
        ·intro p hp;rw[List.mem_append]at hp;rcases hp with hp | hp
         ·exact((Aa HMs p hp).kp hK' (by decide) (by decide) (by decide)).kp hset (by decide) (by decide) (by decide)
         ·simp only[List.mem_singleton]at hp;subst hp;exact(T3.kp hK' (by decide) (by decide) (by decide)).kp hset (by decide) (by decide) (by decide)
       have hcs5:=(hcs3.kp hK' (by decide) (by decide)).kp hset (by decide) (by decide);have HD:=Ai (i:=1) hD5 (.slice va' (ml.length+1) vc');have HC:=Aw hC5 (p:=⟨w1.heap.size,1,none⟩) (by simp;omega) (.slice va' (ml.length+1) vc');clear hgrow hown hown2 hK hK' D3 C3 hB3 hset T3 hcs3;go_wp2
       go_roundw
       case rel =>
        refine⟨k+1,_,_,_,by omega,by go_num,rfl,by omega,by omega,by rw[List.length_append,Aa HLL];rfl,?_,hms5,hcs5,HD,HC,hbl5.setCell (by simp;omega) _⟩;unfold Hid;rw[Aa HE,List.map_append];rfl
       case measure=>simp[intOf];omega
     ·obtain rfl:k=m.toNat:=by omega
      have hrep2:Rf.rep (Rf.mth s.data.toList) m.toNat (q+1)=(ml.map Prod.fst,t):=Aa HT;have hF2:=Aa HFF;rw[hrep2,if_neg (by simp only;omega)]at hF2;simp only at hF2;have HF2:=Ac hF2;clear hF2 hrep2 HFF HLL;obtain⟨d0,d1⟩:=cl2 hD;obtain⟨z0,z1⟩:=cl2 hC;obtain⟨g0,g1⟩:=fr2 hC;simp at d0 d1 z0 z1;go_wp2_with fail
      refine bodyPost_ret (v:=.tuple #[.agg #[.slice va l.length vc,.slice vb ml.length vd],.bool (t==(s.size:Int))]) (by simp[results,Tryz.results48,go_sem,z0,z1]) rfl ?_;rw[Aa HF2];have k1:=(Kp.set (b:=w.heap.size) (i:=0) hC (.slice va l.length vc)).trans (Kp.set (i:=1) (Ai (i:=0) hC (.slice va l.length vc)) (.slice vb ml.length vd));refine⟨va,l.length,vc,vb,ml.length,vd,rfl,fun _=>⟨l,?_,hcs.kp k1 (by decide) (by decide),ml,rfl,hms.kp k1 (by decide) (by decide) (by decide) (by decide)⟩,by repeat (first | refine Below.setCell ?_ (by simp) _ | exact hbl)⟩
      rw[← Aa HLG,List.take_append_drop]
theorem Tm (s:ByteArray) (w:World) (hsz:s.size≤15000) :
  Calls Tryz.prog 48 #[.string s] w fun e w'=>Cw s.data.toList w e w':=by
 have hs:s.size≤maxLen:=by unfold maxLen;omega
 have no:Rf.fil s.data.toList=([],[],-1)→(Calls Tryz.prog 48 #[.string s] w fun e w'=>∃ a1 n1 c1 a2 n2 c2,e=.returned (.tuple #[.agg #[.slice a1 n1 c1,.slice a2 n2 c2],.bool false])∧Below w.heap.size w w') →
   Calls Tryz.prog 48 #[.string s] w fun e w'=>Cw s.data.toList w e w':=by
  intro hf hc;refine hc.mono ?_;rintro e w' ⟨a1,n1,c1,a2,n2,c2,rfl,hb⟩;unfold Cw;rw[hf];refine⟨a1,n1,c1,a2,n2,c2,?_,fun h=>?_,hb⟩
  ·rw[show ((-1:Int)==(s.data.toList.length:Int))=false by rw[beq_eq_false_iff_ne];omega]
  ·exfalso;simp only at h;omega
 have hnb:=Rf.cnt_bd s.data.toList 2 0 6 (by omega);by_cases hx:Rf.at' s.data.toList 0=83
 ·by_cases hy:Rf.at' s.data.toList 1=77
  ·by_cases hn:Rf.cnt s.data.toList 2 0 6<0
   ·refine no ?_ (Jt s w 83 77 _ hs (Ac hx) (Ac hy) (Ac rfl) (.inr (.inr ⟨by decide,by decide,hn⟩)));unfold Rf.fil;rw[if_neg (fun h=>h hx),if_neg (fun h=>h hy),if_pos hn]
   ·exact Tt s w _ hsz (Ac hx) (Ac hy) (Ac rfl) (by omega) hnb.2
  ·refine no ?_ (Jt s w 83 _ _ hs (Ac hx) (Ac rfl) (Ac rfl) (.inr (.inl ⟨by decide,by simpa using hy⟩)));unfold Rf.fil;rw[if_neg (fun h=>h hx),if_pos hy]
 ·refine no ?_ (Jt s w _ _ _ hs (Ac rfl) (Ac rfl) (Ac rfl) (.inl (by simpa using hx)));unfold Rf.fil;rw[if_pos hx]
end Go.Proofs.YtcefiamkoincoaaGreat
