/- a part of the proofs -/
import Derived.Deep.RegionHeld
import Derived.Deep.RegionHeld3
import Derived.Test.YtpcgnjolfahacaaGreatPk06
set_option maxRecDepth 100000
set_option maxHeartbeats 40000000
set_option linter.unusedVariables false
set_option linter.unusedSimpArgs false
namespace Go.Proofs.YtpcgnjolfahacaaGreat
open Go.RowKit
theorem TreeIn.set {w:World}{g b i:Nat}{l:List Int} (h:TreeIn w g l) (hb:b≠g) (u:Value):TreeIn (w.setCell ⟨b,i,none⟩ u) g l :=
 ⟨by simpa[World.setCell] using h.1,fun j hj=>by rw[World.cell?_setCell_other _ _ _ _ (by intro e;exact hb (congrArg Addr.block e))];exact h.2 j hj⟩
theorem Ac6 (fa1 fa2:Option Addr) (fc1 fc2:Nat) (lcs:List (Rd.Cls × Value)) (lms:List (Rd.Mth × MthV)) (bm:Nat) (w:World)
  (hm6:lms.length≤6) (hc6:lcs.length≤6) (hcf:∀ p∈lcs,p.1.fields.length≤1000) (hcs:ClssIn w bm (.slice fa1 lcs.length fc1) lcs) (hms:MthsIn w bm (.slice fa2 lms.length fc2) lms) (hbd:∀ p∈lms,Alp p.1) :
  Calls Tryz.prog 68 #[.agg #[.slice fa1 lcs.length fc1,.slice fa2 lms.length fc2]] w fun e w' =>
   e=.returned (.agg #[.int .i64 (Ajm ⟨lcs.map Prod.fst,lms.map Prod.fst⟩).1,.int .i64 (Ajm ⟨lcs.map Prod.fst,lms.map Prod.fst⟩).2.1,.int .i64 (Ajm ⟨lcs.map Prod.fst,lms.map Prod.fst⟩).2.2])∧Below w.heap.size w w':=by
 have HCS:∀ w',Below w.heap.size w w'→ClssIn w' bm (.slice fa1 lcs.length fc1) lcs:=fun w' h=>hcs.kp (Kp.of_below (e:=none) h) (by decide) (by decide);have HMS:∀ w',Below w.heap.size w w'→MthsIn w' bm (.slice fa2 lms.length fc2) lms:=fun w' h=>hms.kp (Kp.of_below (e:=none) h) (by decide) (by decide) (by decide) (by decide) (by decide);have hIC:=fun w' (h:Below w.heap.size w w')=>Qo fa1 fa2 lcs.length fc1 lms.length fc2 bm lcs w' hc6 hcf (HCS w' h);have hTO:=fun w' (h:Below w.heap.size w w')=>Fc fa1 fa2 lcs.length fc1 lms.length fc2 bm lcs w' hc6 (HCS w' h);have hTl:(Tr.tree (lcs.map Prod.fst)).length≤1000:=by rw[Bt];simp;omega
 have hIH:=fun ya yn yc tg cap w' (h:Below w.heap.size w w') hTr=>Um (ya:=ya) (yn:=yn) (yc:=yc) fa1 fa2 lcs.length fc1 fc2 lms (Tr.tree (lcs.map Prod.fst)) tg cap bm w' hTl hTr hm6 (HMS w' h) (fun p hp=>by have:=(hbd p hp).ps;omega);have hIB:=fun ya yn yc tg cap w' (h:Below w.heap.size w w') hTr=>Rs (ya:=ya) (yn:=yn) (yc:=yc) fa1 fa2 fc1 fc2 lcs lms (Tr.tree (lcs.map Prod.fst)) tg cap bm w' hTl hTr hm6 hc6 hcf (HCS w' h) (HMS w' h) hbd;have how:(lms.map fun p=>p.1.cl)=(lms.map Prod.fst).map Rd.Mth.cl:=by simp
 rw[how]at hIB;generalize hR:Ajm ⟨lcs.map Prod.fst,lms.map Prod.fst⟩=R;unfold Ajm Alu at hR;simp only at hR;generalize Tr.tree (lcs.map Prod.fst)=T at *;generalize Tr.inCl T 0 (lcs.map Prod.fst)=ic at *;generalize Ain T (Cd.fieldSum (lcs.map Prod.fst):Int) ((lms.map Prod.fst).map Rd.Mth.cl) 0 (lms.map Prod.fst)=bo at *;generalize hhd:Aiq T (lms.map Prod.fst) 0 (lms.map Prod.fst)=hd at *;obtain⟨i1,i2⟩:=ic;obtain⟨b1,b2,b3⟩:=bo;obtain⟨R1,R2,R3⟩:=R;simp only at hIC hIB hR;have HIC:=Ac hIC;have HTO:=Ac hTO;have HIH:=Ac hIH;have HIB:=Ac hIB;clear hIC hTO hIH hIB HCS HMS hcs hms how hhd hbd;have hB0:=Al w (O1 fa1 lcs.length fc1 fa2 lms.length fc2) (O8 0 0 0);have C0:=Ao w (O1 fa1 lcs.length fc1 fa2 lms.length fc2) (O8 0 0 0);have D0:=Ak w (O1 fa1 lcs.length fc1 fa2 lms.length fc2) (O8 0 0 0);by_cases h1:i1=0
 ·subst h1;rw[if_neg (by simp)]at hR;by_cases h2:0≤hd
  ·rw[if_pos h2]at hR;have HE:=Ac hR;have hre:Al3 hd=(4,hd):=if_pos h2;rw[hre]at HIH;simp only at HIH;clear hR hre h2;go_enter Tryz.func68,Tryz.ntmps68;go_wp2_with fail
   refine(Aa HIC _ hB0).mono ?_;rintro e w1 ⟨rfl,hb1⟩;have hB1:=(QB hB0 hb1);have C1:=stay hb1 C0;have D1:=stay hb1 D0;have hs1:=hB1.size;have lD1:=lt_of_block D1;obtain⟨x0,x1⟩:=cl2 C1;have l1:=lt_of_block C1;simp at x0 x1;have hB1':=hB1.alloc hs1 (O8 0 i2 0);have C1':=Af C1 (O8 0 i2 0);have D1':=Af D1 (O8 0 i2 0);have E1':=Ae w1 (O8 0 i2 0);clear C0 D0 hB0 hb1;go_wp2_with fail
   refine(Aa HTO _ hB1').mono ?_;rintro e w2 ⟨tg,cap,ya,yn,yc,rfl,hTr,-,-,hb2⟩;have hB2:=hB1'.trans (hb2.mono hB1'.size);have C2:=stay hb2 C1';have D2:=stay hb2 D1';have E2:=stay hb2 E1';have hs2:=hB2.size;obtain⟨y0,y1⟩:=cl2 C2;have l2:=lt_of_block C2;simp at y0 y1;have hB2':=hB2.alloc hs2 (O2 (some ⟨tg,0,none⟩) T.length cap ya yn yc);have D2':=Af D2 (O2 (some ⟨tg,0,none⟩) T.length cap ya yn yc);have E2':=Af E2 (O2 (some ⟨tg,0,none⟩) T.length cap ya yn yc);clear x0 x1 l1 C1 D1 C1' D1' E1' hB1' hb2;go_wp2_with fail
   refine(Aa HIH ya yn yc tg cap _ hB2' (hTr.alloc _)).mono ?_;rintro e w3 ⟨rfl,hb3⟩;have hB3:=hB2'.trans (hb3.mono hB2'.size);have D3:=stay hb3 D2';have E3:=stay hb3 E2';have hs3:=hB3.size;have lE:=lt_of_block E3;have lD:=lt_of_block D3;obtain⟨e0,e1,e2⟩:=cl3 E3;obtain⟨g0,g1,g2⟩:=fr3 E3;obtain⟨z0,z1,z2⟩:=cl3 D3;obtain⟨q0,q1,q2⟩:=fr3 D3;simp at e0 e1 e2 z0 z1 z2;clear y0 y1 l2 C2 D2 E2 D2' E2' hB2' hb3;have hne:w1.heap.size≠w.heap.size+1:=by omega
   have hne':w.heap.size+1≠w1.heap.size:=by omega
   go_wp2_with fail
   refine bodyPost_ret (v:=.agg #[.int .i64 4,.int .i64 hd,.int .i64 0]) (by simp[results,Tryz.results68,go_sem,z0,z1,z2]) rfl ?_;have e:=Aa HE;simp only[Prod.mk.injEq]at e;obtain⟨rfl,rfl,rfl⟩:=e;exact⟨rfl,(((((hB3.setCell (by simp;omega) _).setCell (by simp;omega) _).setCell (by simp;omega) _).setCell (by simp) _).setCell (by simp) _).setCell (by simp) _⟩
  ·rw[if_neg h2]at hR;have HE:=Ac hR;have hre:Al3 hd=(0,0):=if_neg h2;rw[hre]at HIH;simp only at HIH;clear hR hre h2;go_enter Tryz.func68,Tryz.ntmps68;go_wp2_with fail
   refine(Aa HIC _ hB0).mono ?_;rintro e w1 ⟨rfl,hb1⟩;have hB1:=(QB hB0 hb1);have C1:=stay hb1 C0;have D1:=stay hb1 D0;have hs1:=hB1.size;have lD1:=lt_of_block D1;obtain⟨x0,x1⟩:=cl2 C1;have l1:=lt_of_block C1;simp at x0 x1;have hB1':=hB1.alloc hs1 (O8 0 i2 0);have C1':=Af C1 (O8 0 i2 0);have D1':=Af D1 (O8 0 i2 0);have E1':=Ae w1 (O8 0 i2 0);clear C0 D0 hB0 hb1;go_wp2_with fail
   refine(Aa HTO _ hB1').mono ?_;rintro e w2 ⟨tg,cap,ya,yn,yc,rfl,hTr,-,htg,hb2⟩;have hB2:=hB1'.trans (hb2.mono hB1'.size);have C2:=stay hb2 C1';have D2:=stay hb2 D1';have E2:=stay hb2 E1';have hs2:=hB2.size;obtain⟨y0,y1⟩:=cl2 C2;have l2:=lt_of_block C2;simp at y0 y1;have hB2':=hB2.alloc hs2 (O2 (some ⟨tg,0,none⟩) T.length cap ya yn yc);have C2':=Af C2 (O2 (some ⟨tg,0,none⟩) T.length cap ya yn yc);have T2':=Ae w2 (O2 (some ⟨tg,0,none⟩) T.length cap ya yn yc);have D2':=Af D2 (O2 (some ⟨tg,0,none⟩) T.length cap ya yn yc);have E2':=Af E2 (O2 (some ⟨tg,0,none⟩) T.length cap ya yn yc);have hb2':w1.heap.size<w2.heap.size:=lt_of_block E2;clear x0 x1 l1 C1 D1 C1' D1' E1' hB1' hb2;go_wp2_with fail
   refine(Aa HIH ya yn yc tg cap _ hB2' (hTr.alloc _)).mono ?_;rintro e w3 ⟨rfl,hb3⟩;have hB3:=hB2'.trans (hb3.mono hB2'.size);have D3:=stay hb3 D2';have E3:=stay hb3 E2';have hs3:=hB3.size;have lE:=lt_of_block E3;have lD:=lt_of_block D3;obtain⟨e0,e1,e2⟩:=cl3 E3;obtain⟨g0,g1,g2⟩:=fr3 E3;simp at e0 e1 e2;have C3:=stay hb3 C2';have T3:=stay hb3 T2';have lC:=lt_of_block C3;have lT:=lt_of_block T3;obtain⟨c0,c1⟩:=cl2 C3;obtain⟨t0,t1⟩:=cl2 T3;simp at c0 c1 t0 t1;have hTr3:=(hTr.alloc (O2 (some ⟨tg,0,none⟩) T.length cap ya yn yc)).below hb3;clear y0 y1 l2 C2 D2 E2 D2' E2' C2' T2' hB2' hb3;have hne:w1.heap.size≠w.heap.size+1:=by omega
   have hne':w.heap.size+1≠w1.heap.size:=by omega
   have hne2:w2.heap.size≠w1.heap.size:=by omega
   have htg':w1.heap.size≠tg:=by simp at htg;omega
   have hTr4:=((hTr3.set (i:=0) htg' (.int .i64 0)).set (i:=1) htg' (.int .i64 0)).set (i:=2) htg' (.int .i64 0);have hB4:=((hB3.setCell (p:=⟨w1.heap.size,0,none⟩) (by simp;omega) (.int .i64 0)).setCell (p:=⟨w1.heap.size,1,none⟩) (by simp;omega) (.int .i64 0)).setCell (p:=⟨w1.heap.size,2,none⟩) (by simp;omega) (.int .i64 0);have D4:(((w3.setCell ⟨w1.heap.size,0,none⟩ (.int .i64 0)).setCell ⟨w1.heap.size,1,none⟩ (.int .i64 0)).setCell ⟨w1.heap.size,2,none⟩ (.int .i64 0)).heap[w.heap.size+1]?=some (O8 0 0 0):=by
    rw[Below.heap_setCell _ _ _ _ (by simpa using hne'),Below.heap_setCell _ _ _ _ (by simpa using hne'),Below.heap_setCell _ _ _ _ (by simpa using hne')];exact D3
   clear D3 hTr3 hTr hB3;go_wp2_with fail
   refine(Aa HIB ya yn yc tg cap _ hB4 hTr4).mono ?_;rintro e w5 ⟨rfl,hb5⟩;have hB5:=QB hB4 hb5;have D5:=stay hb5 D4;obtain⟨z0,z1,z2⟩:=cl3 D5;obtain⟨q0,q1,q2⟩:=fr3 D5;simp at z0 z1 z2;go_wp2_with fail
   refine bodyPost_ret (v:=.agg #[.int .i64 b1,.int .i64 b2,.int .i64 b3]) (by simp[results,Tryz.results68,go_sem,z0,z1,z2]) rfl ?_;have e:=Aa HE;simp only[Prod.mk.injEq]at e;obtain⟨rfl,rfl,rfl⟩:=e;exact⟨rfl,((hB5.setCell (by simp) _).setCell (by simp) _).setCell (by simp) _⟩
 ·rw[if_pos h1]at hR;have HE:=Ac hR;have h1':(i1 != 0)=true:=by simpa using h1
  clear hR h1;go_enter Tryz.func68,Tryz.ntmps68;go_wp2_with fail
  refine(Aa HIC _ hB0).mono ?_;rintro e w1 ⟨rfl,hb1⟩;have hB1:=(QB hB0 hb1);have D1:=stay hb1 D0;have hs1:=hB1.size;have lD:=lt_of_block D1;obtain⟨z0,z1,z2⟩:=cl3 D1;obtain⟨q0,q1,q2⟩:=fr3 D1;simp at z0 z1 z2;go_wp2_with fail
  refine bodyPost_ret (v:=.agg #[.int .i64 i1,.int .i64 i2,.int .i64 0]) (by simp[results,Tryz.results68,go_sem,z0,z1,z2,lD]) rfl ?_;have e:=Aa HE;simp only[Prod.mk.injEq]at e;obtain⟨rfl,rfl,rfl⟩:=e;exact⟨rfl,(((hB1.setCell (by simp) _).setCell (by simp) _).setCell (by simp) _).alloc (by simp;omega) _⟩
theorem Rp {α β:Type}{l:List (α × β)}{r:List α} (h:l.map Prod.fst=r) {P:α→Prop} (hp:∀ x∈r,P x):∀ p∈l,P p.1:=by
 intro p hpm;refine hp p.1 ?_;rw[← h];exact List.mem_map_of_mem hpm
theorem Uq {T:List Int}{nf:Int}{ow:List Int}:∀ (l:List Rd.Mth) (k:Nat),(Ain T nf ow k l).1=0→Ain T nf ow k l=(0,0,0):=by
 intro l
 induction l with
 | nil=>intro k _;rfl
 | cons m r ih =>
  intro k h;unfold Ain at h ⊢;by_cases h0:(Ajt T nf ow m).1≠0
  ·rw[if_pos h0]at h;exact absurd h h0
  ·rw[if_neg h0]at h ⊢;exact ih _ h
theorem Aau (f:Rd.Fil) (h:(Ajm f).1=0):Ajm f=(0,0,0):=by
 unfold Ajm at h ⊢;by_cases h1:(Tr.inCl (Tr.tree f.classes) 0 f.classes).1≠0
 ·rw[if_pos h1]at h;exact absurd h h1
 ·rw[if_neg h1]at h ⊢;unfold Alu at h ⊢;by_cases h2:0≤Aiq (Tr.tree f.classes) f.methods 0 f.methods
  ·rw[if_pos h2]at h;simp at h
  ·rw[if_neg h2]at h ⊢;exact Uq _ _ h
theorem Pp (s:ByteArray) (w:World) (hs:s.size≤maxLen) :
  Calls Tryz.prog 45 #[.string s] w fun e w' =>
   ∃ a1 n1 c1 a2 n2 c2,e=.returned (.tuple #[.agg #[.slice a1 n1 c1,.slice a2 n2 c2],.agg #[.int .i64 (Aib s.data.toList).1,.int .i64 (Aib s.data.toList).2.1,.int .i64 (Aib s.data.toList).2.2]]) ∧
    ((Aib s.data.toList).1=0→∃ lcs lms,lcs.map Prod.fst=(Rd.read s.data.toList).1.classes∧ClssIn w' w.heap.size (.slice a1 n1 c1) lcs∧lms.map Prod.fst=(Rd.read s.data.toList).1.methods∧MthsIn w' w.heap.size (.slice a2 n2 c2) lms)∧Below w.heap.size w w':=by
 have hRd:=fun w=>Add s w hs;obtain⟨hm6,hmb⟩:=Hj s.data.toList;obtain⟨hc6,hcf⟩:=Id s.data.toList;have hPz:(Aib s.data.toList).1=0→Aib s.data.toList=(0,0,0):=by
  intro h;unfold Aib at h ⊢;by_cases h1:(Rd.read s.data.toList).2≠0
  ·rw[if_pos h1]at h;exact absurd h h1
  ·rw[if_neg h1]at h ⊢;exact Aau _ h
 generalize hP:Aib s.data.toList=P at *;unfold Aib at hP;generalize Rd.read s.data.toList=q at *;obtain⟨⟨cs,ms⟩,er⟩:=q;obtain⟨P1,P2,P3⟩:=P;simp only[Prod.mk.injEq]at hRd hm6 hmb hc6 hcf hP hPz ⊢;have HPZ:=Ac hPz;clear hPz;have HRD:=Ac hRd;have HMB:=Ac hmb;have HCF:=Ac hcf;clear hRd hmb hcf;have hB0:=Al w (O1 none 0 0 none 0 0) (O8 0 0 0);have C0:=Ao w (O1 none 0 0 none 0 0) (O8 0 0 0);have D0:=Ak w (O1 none 0 0 none 0 0) (O8 0 0 0);by_cases h1:er=0
 ·subst h1;rw[if_neg (by simp)]at hP;have HP:=Ac hP;clear hP;go_enter Tryz.func45,Tryz.ntmps45;go_wp2_with fail
  refine(Aa HRD _).mono ?_;rintro e w1 ⟨a1,n1,c1,a2,n2,c2,rfl,⟨lcs,hl1,hcs⟩,⟨lms,hl2,hms⟩,hb1⟩;obtain⟨xa,xc,hsh⟩:=Ah hcs.1;simp only[Value.slice.injEq]at hsh;obtain⟨rfl,rfl,rfl⟩:=hsh;obtain⟨xa,xc,hsh⟩:=Ah hms.1;simp only[Value.slice.injEq]at hsh;obtain⟨rfl,rfl,rfl⟩:=hsh;have hB1:=QB hB0 hb1;have hs1:=hB1.size;have C1:=stay hb1 C0;have D1:=stay hb1 D0;have lC:=lt_of_block C1;have lD:=lt_of_block D1;have hcs':ClssIn w1 (w.heap.size+1+1) (.slice a1 lcs.length c1) lcs:=by simpa using hcs
  have hms':MthsIn w1 (w.heap.size+1+1) (.slice a2 lms.length c2) lms:=by simpa using hms
  have hK1:Kp none (w.heap.size+1+1) w1 (w1.alloc (O1 a1 lcs.length c1 a2 lms.length c2)):=Kp.alloc _ _;have hfi:=Ac6 a1 a2 c1 c2 lcs lms (w.heap.size+1+1) (w1.alloc (O1 a1 lcs.length c1 a2 lms.length c2))
   (by have:=congrArg List.length hl2;simp at this;omega) (by have:=congrArg List.length hl1;simp at this;omega) (Rp hl1 (Aa HCF)) (hcs'.kp hK1 (by decide) (by decide)) (hms'.kp hK1 (by decide) (by decide) (by decide) (by decide) (by decide)) (Rp hl2 (Aa HMB))
  rw[hl1,hl2,Aa HP]at hfi;have HFI:=Ac hfi;have hB1':=hB1.alloc hs1 (O1 a1 lcs.length c1 a2 lms.length c2);have C1':=Af C1 (O1 a1 lcs.length c1 a2 lms.length c2);have D1':=Af D1 (O1 a1 lcs.length c1 a2 lms.length c2);have E1':=Ae w1 (O1 a1 lcs.length c1 a2 lms.length c2);clear hfi hcs hms hb1 C0 D0 hB0 C1 D1 hK1;go_wp2_with fail
  refine(Aa HFI).mono ?_;rintro e w2 ⟨rfl,hb2⟩;have hB2:=hB1'.trans (hb2.mono hB1'.size);have C2:=stay hb2 C1';have D2:=stay hb2 D1';have E2:=stay hb2 E1';have hcs2:=(hcs'.kp (Kp.alloc (e:=none) w1 (O1 a1 lcs.length c1 a2 lms.length c2)) (by decide) (by decide)).kp (Kp.of_below (e:=none) hb2) (by decide) (by decide);have hms2:=(hms'.kp (Kp.alloc (e:=none) w1 (O1 a1 lcs.length c1 a2 lms.length c2)) (by decide) (by decide) (by decide) (by decide) (by decide)).kp (Kp.of_below (e:=none) hb2) (by decide) (by decide) (by decide) (by decide) (by decide);have hs2:=hB2.size;have lC2:=lt_of_block C2;have lD2:=lt_of_block D2;have lE2:=lt_of_block E2;obtain⟨x0,x1⟩:=cl2 E2;obtain⟨y0,y1⟩:=cl2 C2;obtain⟨z0,z1,z2⟩:=cl3 D2;obtain⟨p0,p1⟩:=fr2 C2;obtain⟨q0,q1,q2⟩:=fr3 D2;simp at x0 x1 y0 y1 z0 z1 z2;clear C1' D1' E1' hB1' hb2;by_cases h2:P1=0
  ·obtain⟨-,rfl,rfl⟩:=Aa HPZ h2;subst h2;go_wp2_with fail
   refine bodyPost_ret (v:=.tuple #[.agg #[.slice a1 lcs.length c1,.slice a2 lms.length c2],.agg #[.int .i64 0,.int .i64 0,.int .i64 0]]) (by simp[results,Tryz.results45,go_sem,y0,y1,z0,z1,z2,lC2,lD2]) rfl ?_;have k1:Kp none (w.heap.size+1+1) w2 ((((((w2.setCell ⟨w.heap.size,0,none⟩ (.slice a1 lcs.length c1)).setCell ⟨w.heap.size,1,none⟩ (.slice a2 lms.length c2)).setCell ⟨w.heap.size+1,0,none⟩ (.int .i64 0)).setCell ⟨w.heap.size+1,1,none⟩ (.int .i64 0)).setCell ⟨w.heap.size+1,2,none⟩ (.int .i64 0)).alloc (O8 0 0 0)) :=
    (((((Kp.set_lo (by omega) _).trans (Kp.set_lo (by omega) _)).trans (Kp.set_lo (by omega) _)).trans (Kp.set_lo (by omega) _)).trans (Kp.set_lo (by omega) _)).trans (Kp.alloc _ _)
   refine⟨a1,lcs.length,c1,a2,lms.length,c2,rfl,?_,?_⟩
   ·first | intro _;exact⟨lcs,lms,hl1,(hcs2.kp k1 (by decide) (by decide)).mono (by omega),hl2,(hms2.kp k1 (by decide) (by decide) (by decide) (by decide) (by decide)).mono (by omega)⟩ | exact⟨lcs,hl1,(hcs2.kp k1 (by decide) (by decide)).mono (by omega),lms,hl2,(hms2.kp k1 (by decide) (by decide) (by decide) (by decide) (by decide)).mono (by omega)⟩
   ·exact(((((hB2.setCell (by simp) _).setCell (by simp) _).setCell (by simp) _).setCell (by simp) _).setCell (by simp) _).alloc (by simp;omega) _
  ·have h2':(P1 != 0)=true:=by simpa using h2
   go_wp2;have H2:=Ac h2;clear h2
   go_region
   go_wp2_with fail
   refine bodyPost_ret (v:=.tuple #[.agg #[.slice none 0 0,.slice none 0 0],.agg #[.int .i64 P1,.int .i64 P2,.int .i64 P3]]) (by simp[results,Tryz.results45,go_sem,y0,y1,z0,z1,z2,lC2,lD2]) rfl ?_;refine⟨none,0,0,none,0,0,rfl,fun h=>absurd h (Aa H2),?_⟩;exact((((((hB2.setCell (by simp) _).setCell (by simp) _).setCell (by simp) _).setCell (by simp) _).setCell (by simp) _).alloc (by simp;omega) _).drew
 ·rw[if_pos h1]at hP;have h1':(er != 0)=true:=by simpa using h1
  simp only[Prod.mk.injEq]at hP;obtain⟨rfl,rfl,rfl⟩:=hP;have H1:=Ac h1;clear h1 HPZ;go_enter Tryz.func45,Tryz.ntmps45;go_wp2_with fail
  refine(Aa HRD _).mono ?_;rintro e w1 ⟨a1,n1,c1,a2,n2,c2,rfl,-,-,hb1⟩;have hB1:=QB hB0 hb1;have hs1:=hB1.size;have C1:=stay hb1 C0;have D1:=stay hb1 D0;have lC2:=lt_of_block C1;have lD2:=lt_of_block D1;obtain⟨y0,y1⟩:=cl2 C1;obtain⟨z0,z1,z2⟩:=cl3 D1;obtain⟨p0,p1⟩:=fr2 C1;obtain⟨q0,q1,q2⟩:=fr3 D1;simp at y0 y1 z0 z1 z2;go_wp2_with fail
  refine bodyPost_ret (v:=.tuple #[.agg #[.slice none 0 0,.slice none 0 0],.agg #[.int .i64 er,.int .i64 0,.int .i64 0]]) (by simp[results,Tryz.results45,go_sem,y0,y1,z0,z1,z2,lC2,lD2]) rfl ?_;refine⟨none,0,0,none,0,0,rfl,fun h=>absurd h (Aa H1),?_⟩;exact(((((hB1.setCell (by simp) _).setCell (by simp) _).setCell (by simp) _).setCell (by simp) _).setCell (by simp) _).alloc (by simp;omega) _
theorem Fp {α:Type} (f:α→List UInt8) (c:Nat) (l:List α) (h:∀ x∈l,(f x).length≤c):(l.flatMap f).length≤l.length*c:=by
 induction l with
 | nil=>simp
 | cons x r ih =>
  have h1:=h x (List.mem_cons_self ..);have h2:=ih (fun y hy=>h y (List.mem_cons_of_mem _ hy));simp only[List.flatMap_cons,List.length_append,List.length_cons,Nat.add_mul];omega
def TyR (w:World) (v:Value) (l:List (Int × Int)):Prop :=
 (v=.slice none 0 0∧l=[])∨∃ g o c cur,v=.slice (some ⟨g,o,none⟩) l.length c∧w.heap[g]?=some (.cells cur 31 (0,0))∧l.length≤c∧c≤maxLen∧∀ j x,(Aq l)[j]?=some x→w.cell? ⟨g,o+j,none⟩=some x
theorem TyR.nil (w:World):TyR w (.slice none 0 0) []:=.inl ⟨rfl,rfl⟩
theorem TyR.of_tys {w:World}{b:Nat}{v:Value}{l:List (Int × Int)} (h:TysAt w b v l):TyR w v l:=by
 obtain⟨hl,⟨hv,hn⟩|⟨g,cap,cur,hv,hb,hg,hlen,hm,hsz,htk⟩⟩:=h
 ·exact .inl ⟨hv,List.eq_nil_of_length_eq_zero hn⟩
 ·refine .inr ⟨g,0,cap,cur,hv,hg,hlen,hm,fun j u hu=>?_⟩;have hj:j<(Aq l).length:=(List.getElem?_eq_some_iff.1 hu).1;rw[Nat.zero_add,Ab hg,← hu,← htk,List.getElem?_take,if_pos (by rw[hl]at hj;exact hj)]
  simp
theorem TyR.below {w w':World}{v:Value}{l:List (Int × Int)} (h:TyR w v l) (hb:Below w.heap.size w w'):TyR w' v l:=by
 rcases h with h|⟨g,o,c,cur,hv,hg,h1,h2,h3⟩
 ·exact .inl h
 ·exact .inr ⟨g,o,c,cur,hv,(hb.block g (lt_of_block hg)).trans hg,h1,h2,fun j x hx=>by rw[hb.cell (p:=⟨g,o+j,none⟩) (lt_of_block hg)];exact h3 j x hx⟩
theorem TyR.shape {w:World}{v:Value}{l:List (Int × Int)} (h:TyR w v l):∃ a c,v=.slice a l.length c:=by
 rcases h with ⟨rfl,rfl⟩|⟨g,o,c,cur,hv,_⟩
 ·exact⟨none,0,rfl⟩
 ·exact⟨_,c,hv⟩
theorem TyR.cap {w:World}{a:Option Addr}{n c:Nat}{l:List (Int × Int)} (h:TyR w (.slice a n c) l):n=l.length∧l.length≤c∧c≤maxLen:=by
 rcases h with ⟨h1,rfl⟩|⟨g,o,c',cur,hv,_,h1,h2,_⟩
 ·simp only[Value.slice.injEq]at h1;obtain⟨_,rfl,rfl⟩:=h1;exact⟨rfl,Nat.le_refl _,Nat.zero_le _⟩
 ·simp only[Value.slice.injEq]at hv;obtain⟨_,rfl,rfl⟩:=hv;exact⟨rfl,h1,h2⟩
theorem TyR.at {w:World}{a:Option Addr}{n c:Nat}{l:List (Int × Int)} (h:TyR w (.slice a n c) l) (hn:0<l.length) :
  ∃ g o,a=some ⟨g,o,none⟩∧g<w.heap.size∧∀ k (hk:k<l.length),w.cell? ⟨g,o+k*2,none⟩=some (.int .i64 l[k].1)∧w.cell? ⟨g,o+k*2+1,none⟩=some (.int .i64 l[k].2):=by
 rcases h with ⟨_,rfl⟩|⟨g,o,c',cur,hv,hg,_,_,h3⟩
 ·simp at hn
 ·simp only[Value.slice.injEq]at hv;refine⟨g,o,hv.1,lt_of_block hg,fun k hk=>?_⟩;obtain⟨e1,e2,_⟩:=Dg l k hk;exact⟨h3 _ _ e1,by rw[Nat.add_assoc];exact h3 _ _ e2⟩
theorem Tt (l:List (Int × Int)) (k:Nat):Aq (l.take k)=(Aq l).take (k*2):=by
 induction l generalizing k with
 | nil=>simp[Aq]
 | cons x r ih =>
  cases k with
  | zero=>simp[Aq]
  | succ j =>
   have e:Aq (x::r)=.int .i64 x.1 :: .int .i64 x.2::Aq r:=by simp[Aq]
   have e':Aq (x::r.take j)=.int .i64 x.1 :: .int .i64 x.2::Aq (r.take j):=by simp[Aq]
   rw[List.take_succ_cons,e,e',ih,show (j+1)*2=j*2+1+1 by omega,List.take_succ_cons,List.take_succ_cons]
theorem TyR.new1 (w:World) (k n:Int):TyR (w.alloc (O7 k n)) (.slice (some ⟨w.heap.size,0,none⟩) 1 1) [(k,n)]:=by
 refine .inr ⟨w.heap.size,0,1,_,rfl,Ae w _,by simp,by unfold maxLen;omega,fun j x hx=>?_⟩;rw[Ab (Ae w _),Nat.zero_add]
 simpa[Aq] using hx
theorem TyR.new2 (w:World) (k n k' n':Int):TyR (w.alloc (O16 k n k' n')) (.slice (some ⟨w.heap.size,0,none⟩) 2 2) [(k,n),(k',n')]:=by
 refine .inr ⟨w.heap.size,0,2,_,rfl,Ae w _,by simp,by unfold maxLen;omega,fun j x hx=>?_⟩;rw[Ab (Ae w _),Nat.zero_add]
 simpa[Aq] using hx
theorem Fh {w:World}{ops:Array Oper}{rest:List Oper}{o:Oper}{a:Act}{Q:Exit→Act→World→Prop} (hgd:o.guard=none) (s x:Operand)
  (ho:o.op=.call { callee:=.builtin .append,args:=#[s,x],argTypes:=#[105,105] })
  (base:Nat) (v:Value) (xs ys:List (Int × Int)) (va:Option Addr) (vl vc:Nat) (hs:a.eval s=v) (hown:w.ownsRow base 31 2 v xs.length (Aq xs)) (hx:a.eval x=.slice va vl vc) (hy:TyR w (.slice va vl vc) ys)
  (h1:xs.length+ys.length≤100000) (hbase:base≤w.heap.size)
  (h:∀ v' w',w'.ownsRow base 31 2 v' (xs++ys).length (Aq (xs++ys))→w.grownBy w' v.ownBlock→wpList Tryz.prog ops Q rest (a.put o.dst v') w'):wpList Tryz.prog ops Q (o::rest) a w:=by
 obtain⟨i0,hi,hz0,hz1,hz2⟩:=info_parts Tryz.infoType;rcases hy with ⟨hv,rfl⟩|⟨g,of,c,cur,hv,hg,hc,hm,h3⟩
 ·refine wpList_append_own_none hgd s x _ ho base 31 i0 2 Tryz.underlying105 hi v _ _ hs hown (hx.trans hv) ?_;exact h v w (by simpa using hown) (World.grownBy.refl _ _)
 ·refine wpList_append_own w hgd s x _ ho base 31 i0 _ 2 16 Tryz.underlying105 hi hz0 hz1 hz2 rfl (by omega) v _ _ hs hown ⟨g,of,none⟩ ys.length c (Aq ys) (hx.trans hv) (Ik ys) ?_ (Wc ys) (by unfold maxLen;omega) (by omega) hbase ?_
  ·intro j u hu;rw[Addr.add_lit];exact h3 j u hu
  ·intro v' w' ho' hg' _;exact h v' w' (by rw[List.length_append,Ew];exact ho') hg'
structure Ahh where
 locals:List (Int × Int)
 stack:List (Int × Int)
def Aiz (r:Int × Int):List (Int × Int):=if r.1=0 then [] else [r]
def Aif (a b:Int × Int) (l:List (Int × Int)):List (Int × Int):=l.map fun x=>if x=a then b else x
def Aky (T:List Int):List (Int × Int)→List (Int × Int)→Bool
 | _,[]=>true
 | [],_::_=>false
 | s::ss,t::ts=>Tr.rfits T s.1 s.2 t.1 t.2&&Aky T ss ts
def Ajr (T:List Int) (st want:List (Int × Int)):Bool:=if st.length<want.length then false else Aky T (st.drop (st.length-want.length)) want
def Aho (T:List Int) (a b:Ahh):Bool :=
 if a.stack.length≠b.stack.length then false else if a.locals.length≠b.locals.length then false else Ajr T a.locals b.locals&&Ajr T a.stack b.stack
theorem Bg {B n:Nat}{a w:World} (h:Below B a w):Below B a (w.drewN n):=⟨h.os,h.tape,h.output,h.size,h.block⟩
theorem Tk (a b:Int × Int) (l:List (Int × Int)) (q:Nat) (hq:q<l.length):Aif a b (l.take (q+1))=Aif a b (l.take q)++[if l[q]=a then b else l[q]]:=by
 unfold Aif;rw[List.take_succ_eq_append_getElem hq,List.map_append];rfl
theorem Fv {w:World}{b:Nat}{v:Value}{l:List (Int × Int)}{n:Nat} (h:w.ownsRow b 31 2 v n (Aq l)) (hn:n=l.length):TyR w v l:=by
 subst hn;exact TyR.of_tys h
structure FrV where
 la:Option Addr
 ln:Nat
 lc:Nat
 sa:Option Addr
 sn:Nat
 sc:Nat
def FrV.val (v:FrV):Value:=.agg #[.slice v.la v.ln v.lc,.slice v.sa v.sn v.sc]
structure FrV.is (v:FrV) (x:Ahh) (w:World):Prop where
 lo:TyR w (.slice v.la v.ln v.lc) x.locals
 st:TyR w (.slice v.sa v.sn v.sc) x.stack
 hl:x.locals.length≤5000
 hs:x.stack.length≤5000
theorem FrV.is.below {v:FrV}{x:Ahh}{w w':World} (h:v.is x w) (hb:Below w.heap.size w w'):v.is x w':=⟨h.lo.below hb,h.st.below hb,h.hl,h.hs⟩
def Ah1 (op:Int):Bool:=decide (op=11∨op=12∨op=13∨op=14)
def Aih (op:Int):Bool:=decide (¬ (op=11∨op=22∨op=23))
def Ait (p:Int):List Rd.Mp→Option Ahh
 | []=>none
 | m::r=>if m.place=p then some ⟨m.locals,m.stack⟩ else Ait p r
def Ah2 (x:Option Ahh):Ahh:=x.getD ⟨[],[]⟩
def Alv (cl:Int) (ps:List (Int × Int)):List (Int × Int):=(if cl=255 then [] else [(3,cl)])++ps
def Ak4 (cl:Int) (ps:List (Int × Int)) (lo:Nat):Ahh:=⟨Alv cl ps++List.replicate (lo-(Alv cl ps).length) (0,0),[]⟩
def Ajj (F:List Rf.Fld) (ms:List Rd.Mth) (res:Int × Int) (op n:Int):List (Int × Int) :=
 if op=7∨op=8∨op=9∨op=10∨op=13 then [(1,0),(1,0)] else if op=12∨op=25 then [(1,0)] else if op=14∨op=19 then [(3,0)]
 else if op=17 then [(3,(F.getD n.toNat ⟨0,0,(0,0)⟩).owner)] else if op=18 then [(3,(F.getD n.toNat ⟨0,0,(0,0)⟩).owner),(F.getD n.toNat ⟨0,0,(0,0)⟩).t]
 else if op=20 then (ms.getD n.toNat ⟨0,0,[],(0,0),0,0,[],[],[]⟩).params else if op=21 then (3,(ms.getD n.toNat ⟨0,0,[],(0,0),0,0,[],[],[]⟩).cl)::(ms.getD n.toNat ⟨0,0,[],(0,0),0,0,[],[],[]⟩).params
 else if op=22 then Aiz res else if op=23 then [(3,1)] else []
def Ai5 (F:List Rf.Fld) (ms:List Rd.Mth) (op n:Int):List (Int × Int) :=
 if op=0∨op=7∨op=8∨op=9∨op=10∨op=24 then [(1,0)] else if op=1 then [(2,0)] else if op=17 then [(F.getD n.toNat ⟨0,0,(0,0)⟩).t]
 else if op=19 then [(3,n)] else if op=20∨op=21 then Aiz (ms.getD n.toNat ⟨0,0,[],(0,0),0,0,[],[],[]⟩).result else []
def Amb (T:List Int) (want:List (Int × Int)) (arg:Int→Int) (c:Int) (x:Ahh):Option Ahh :=
 if Ajr T x.stack want=false then none else if x.stack.length<want.length+1 then none
 else if (x.stack.getD (x.stack.length-want.length-1) (0,0)).1≠4 then none
 else if arg (x.stack.getD (x.stack.length-want.length-1) (0,0)).2≠c then none
 else some ⟨Aif (x.stack.getD (x.stack.length-want.length-1) (0,0)) (3,c) x.locals,Aif (x.stack.getD (x.stack.length-want.length-1) (0,0)) (3,c) (x.stack.take (x.stack.length-want.length-1))⟩
def Alf (T:List Int) (F:List Rf.Fld) (ms:List Rd.Mth) (want:Int→List (Int × Int)) (arg:Int→Int) (res:Int × Int) (p op n:Int) (x:Ahh):Option Ahh :=
 if op=2 then (if (x.locals.getD n.toNat (0,0)).1=0 then none else some ⟨x.locals,x.stack++[x.locals.getD n.toNat (0,0)]⟩)
 else if op=3 then (if x.stack.length<1 then none else some ⟨x.locals.set n.toNat (x.stack.getD (x.stack.length-1) (0,0)),x.stack.take (x.stack.length-1)⟩)
 else if op=4 then (if x.stack.length<1 then none else some ⟨x.locals,x.stack.take (x.stack.length-1)⟩)
 else if op=5 then (if x.stack.length<1 then none else some ⟨x.locals,x.stack++x.stack.drop (x.stack.length-1)⟩)
 else if op=6 then (if x.stack.length<2 then none else some ⟨x.locals,x.stack.take (x.stack.length-2)++[x.stack.getD (x.stack.length-1) (0,0),x.stack.getD (x.stack.length-2) (0,0)]⟩)
 else if op=15 then some ⟨Aif (4,p) (0,0) x.locals,Aif (4,p) (0,0) x.stack++[(4,p)]⟩
 else if op=16 then Amb T (want n) arg n x
 else if Ajr T x.stack (Ajj F ms res op n)=false then none
 else some ⟨x.locals,x.stack.take (x.stack.length-(Ajj F ms res op n).length)++Ai5 F ms op n⟩
theorem Ye (l:List (Int × Int)) (q:Nat) (t1 t2:Int):Aq (l.set q (t1,t2))=((Aq l).set (q*2) (.int .i64 t1)).set (q*2+1) (.int .i64 t2):=by
 induction l generalizing q with
 | nil=>simp[Aq]
 | cons x r ih =>
  have e:∀ (y:Int × Int) (s:List (Int × Int)),Aq (y::s)=.int .i64 y.1 :: .int .i64 y.2::Aq s:=fun y s=>by simp[Aq]
  cases q with
  | zero=>rw[List.set_cons_zero,e,e];rfl
  | succ j=>rw[List.set_cons_succ,e,e,ih,show (j+1)*2=j*2+1+1 by omega];rfl
theorem If {w:World}{b:Nat}{a:Option Addr}{n c:Nat}{l:List (Int × Int)} (h:TysAt w b (.slice a n c) l) {q:Nat} (hq:q<l.length) (t1 t2:Int) :
  ∃ g,a=some ⟨g,0,none⟩∧g<w.heap.size∧b≤g∧w.cell? ⟨g,q*2,none⟩=some (.int .i64 l[q].1)∧w.cell? ⟨g,q*2+1,none⟩=some (.int .i64 l[q].2)∧w.frozen? ⟨g,q*2,none⟩=false∧w.frozen? ⟨g,q*2+1,none⟩=false ∧
   TysAt ((w.setCell ⟨g,q*2,none⟩ (.int .i64 t1)).setCell ⟨g,q*2+1,none⟩ (.int .i64 t2)) b (.slice a n c) (l.set q (t1,t2)):=by
 obtain⟨g',o',ha',_,hat⟩:=(TyR.of_tys h).at (by omega);obtain⟨hl,⟨hv,hn⟩|⟨g,cap,cur,hv,hb,hg,hlen,hm,hsz,htk⟩⟩:=h
 ·omega
 ·simp only[Value.slice.injEq]at hv;obtain⟨rfl,rfl,rfl⟩:=hv;simp only[Option.some.injEq,Addr.mk.injEq]at ha';obtain⟨rfl,rfl,-⟩:=ha';obtain⟨c0,c1⟩:=hat q hq;simp only[Nat.zero_add]at c0 c1;refine⟨g,rfl,lt_of_block hg,hb,c0,c1,Ai hg _,Ai hg _,?_⟩;refine⟨by rw[Ik],.inr ⟨g,c,_,by rw[List.length_set],hb,Ap (Ap hg _) _,by rw[List.length_set];exact hlen,hm,by simpa using hsz,?_⟩⟩;rw[List.length_set,Ye,← htk];simp only[Array.toList_setIfInBounds];rw[List.take_set,List.take_set]
theorem TyR.set_frame {w:World}{v:Value}{l:List (Int × Int)}{z:Nat}{a1 a2:Option Addr}{n1 c1 n2 c2:Nat}{ty:TypeId} (h:TyR w v l) (hz:w.heap[z]?=some (.cells #[.slice a1 n1 c1,.slice a2 n2 c2] ty (0,0))) (s t:Value):TyR ((w.setCell ⟨z,0,none⟩ s).setCell ⟨z,1,none⟩ t) v l:=by
 rcases h with h|⟨g,o,c,cur,hv,hg,h1,h2,h3⟩
 ·exact .inl h
 ·obtain⟨cur',hg'⟩:∃ cur',((w.setCell ⟨z,0,none⟩ s).setCell ⟨z,1,none⟩ t).heap[g]?=some (.cells cur' 31 (0,0)):=by
   by_cases e:g=z
   ·subst e;have e2:=hg.symm.trans hz;simp only[Option.some.injEq,Obj.cells.injEq]at e2;obtain⟨_,rfl,_⟩:=e2;exact⟨_,Ap (Ap hz s) t⟩
   ·exact⟨cur,((Below.heap_setCell _ _ _ _ (by simpa using e)).trans (Below.heap_setCell _ _ _ _ (by simpa using e))).trans hg⟩
  refine .inr ⟨g,o,c,cur',hv,hg',h1,h2,fun j x hx=>?_⟩;have hne:g≠z:=by
   intro e;subst e;have h4:=h3 j x hx;rw[Ab hz]at h4;have hint:∃ k,x=Value.int .i64 k:=by
    have:=List.mem_of_getElem? hx;simp only[Aq,List.mem_flatMap,List.mem_cons,List.not_mem_nil,or_false]at this;obtain⟨y,_,rfl | rfl⟩:=this<;>exact⟨_,rfl⟩
   obtain⟨k,rfl⟩:=hint;generalize o+j=i at h4
   match i,h4 with
   | 0,h4=>simp at h4
   | 1,h4=>simp at h4
   | i+2,h4=>simp at h4
  rw[World.cell?_setCell_other _ _ _ _ (by intro e;exact hne (congrArg Addr.block e).symm),World.cell?_setCell_other _ _ _ _ (by intro e;exact hne (congrArg Addr.block e).symm)];exact h3 j x hx
theorem Xd (F:List Rf.Fld) (ms:List Rd.Mth) (op n:Int):(Ai5 F ms op n).length≤1:=by
 have hr:∀ res,(Aiz res).length≤1:=fun res=>by unfold Aiz;split<;>simp
 unfold Ai5
 split
 ·simp
 ·split
  ·simp
  ·split
   ·simp
   ·split
    ·simp
    ·split
     ·exact hr _
     ·simp
def Ai1 (st:Int) (y:Option Ahh):Option Ahh:=y.bind fun z=>if (z.stack.length:Int)≤st then some z else none
def Ajy (T:List Int) (mp:Int→Option Ahh) (p:Int) (lo:List (Int × Int)):List Rd.Hnd→Int
 | []=>0
 | h::r=>if p<h.frm then Ajy T mp p lo r else if h.til≤p then Ajy T mp p lo r
  else if (mp h.target).isSome=false then 8 else if Aho T ⟨lo,[(3,h.cl)]⟩ (Ah2 (mp h.target))=false then 9 else Ajy T mp p lo r
def Akl (T:List Int) (tk lv want:List (Int × Int)) (arg:Int→Int) (p op n:Int) (x:Ahh):Option Ahh :=
 if op=2 then (if (x.locals.getD n.toNat (0,0)).1=0 then none else some ⟨x.locals,x.stack++[x.locals.getD n.toNat (0,0)]⟩)
 else if op=3 then (if x.stack.length<1 then none else some ⟨x.locals.set n.toNat (x.stack.getD (x.stack.length-1) (0,0)),x.stack.take (x.stack.length-1)⟩)
 else if op=4 then (if x.stack.length<1 then none else some ⟨x.locals,x.stack.take (x.stack.length-1)⟩)
 else if op=5 then (if x.stack.length<1 then none else some ⟨x.locals,x.stack++x.stack.drop (x.stack.length-1)⟩)
 else if op=6 then (if x.stack.length<2 then none else some ⟨x.locals,x.stack.take (x.stack.length-2)++[x.stack.getD (x.stack.length-1) (0,0),x.stack.getD (x.stack.length-2) (0,0)]⟩)
 else if op=15 then some ⟨Aif (4,p) (0,0) x.locals,Aif (4,p) (0,0) x.stack++[(4,p)]⟩
 else if op=16 then Amb T want arg n x
 else if Ajr T x.stack tk=false then none
 else some ⟨x.locals,x.stack.take (x.stack.length-tk.length)++lv⟩
theorem Ie (T:List Int) (F:List Rf.Fld) (ms:List Rd.Mth) (want:Int→List (Int × Int)) (arg:Int→Int) (res:Int × Int) (p op n:Int) (x:Ahh) :
  Alf T F ms want arg res p op n x=Akl T (Ajj F ms res op n) (Ai5 F ms op n) (want n) arg p op n x:=rfl
structure Ahz where
 lo:List (Int × Int)
 st:List (Int × Int)
 br:Bool
def Ahi (b:Ahz):(Int × Int) × Ahz :=
 if b.st.length=0 then ((0,0),⟨b.lo,b.st,true⟩) else (b.st.getD (b.st.length-1) (0,0),⟨b.lo,b.st.take (b.st.length-1),b.br⟩)
def Alx (T:List Int) (t x:Int × Int) (b:Ahz):Ahz:=if Tr.fitsB T t.1 t.2 x.1 x.2=true then b else ⟨b.lo,b.st,true⟩
def Air (T:List Int) (l:List (Int × Int)):Nat→Ahz→Ahz
 | 0,b=>b
 | i+1,b=>Air T l i (Alx T (Ahi b).1 (l.getD i (0,0)) (Ahi b).2)
def Ais (T:List Int) (l:List (Int × Int)) (b:Ahz):Ahz:=Air T l l.length b
def Ah8 (hi:Int) (t:Int × Int) (b:Ahz):Ahz:=if hi≤(b.st.length:Int) then ⟨b.lo,b.st,true⟩ else ⟨b.lo,b.st++[t],b.br⟩
def Aiw (hi:Int):List (Int × Int)→Ahz→Ahz
 | [],b=>b
 | t::r,b=>Aiw hi r (Ah8 hi t b)
def Al2 (hi n:Int) (b:Ahz):Ahz :=
 if n<0 then ⟨b.lo,b.st,true⟩ else if (b.lo.length:Int)≤n then ⟨b.lo,b.st,true⟩ else if (b.lo.getD n.toNat (0,0)).1=0 then ⟨b.lo,b.st,true⟩ else Ah8 hi (b.lo.getD n.toNat (0,0)) b
def Alw (n:Int) (b:Ahz):Ahz :=
 if n<0 then ⟨b.lo,(Ahi b).2.st,true⟩ else if (b.lo.length:Int)≤n then ⟨b.lo,(Ahi b).2.st,true⟩ else ⟨b.lo.set n.toNat (Ahi b).1,(Ahi b).2.st,(Ahi b).2.br⟩
def Aki (old fresh:Int × Int) (b:Ahz):Ahz:=⟨Aif old fresh b.lo,Aif old fresh b.st,b.br⟩
def Amo (hi:Int) (b:Ahz):Ahz:=Ah8 hi (Ahi (Ahi b).2).1 (Ah8 hi (Ahi b).1 (Ahi (Ahi b).2).2)
def Amp (hi:Int) (b:Ahz):Ahz:=Ah8 hi (Ahi b).1 (Ah8 hi (Ahi b).1 (Ahi b).2)
def Ale (isNew:Int→Bool) (c:Int) (t:Int × Int) (b:Ahz):Ahz :=
 if t.1≠4 then ⟨b.lo,b.st,true⟩ else if isNew t.2=false then ⟨b.lo,b.st,true⟩ else Aki t (3,c) b
def Al9 (T:List Int) (want:List (Int × Int)) (isNew:Int→Bool) (c:Int) (b:Ahz):Ahz :=
 Ale isNew c (Ahi (Ais T want b)).1 (Ahi (Ais T want b)).2
def Aii (b:Ahz):Option Ahh:=if b.br=true then none else some ⟨b.lo,b.st⟩
def Al5 (T:List Int) (hi:Int) (tk lv want:List (Int × Int)) (isNew:Int→Bool) (p op n:Int) (b:Ahz):Ahz :=
 if op=2 then Al2 hi n b else if op=3 then Alw n b else if op=4 then (Ahi b).2 else if op=5 then Amp hi b else if op=6 then Amo hi b
 else if op=15 then Ah8 hi (4,p) (Aki (4,p) (0,0) b) else if op=16 then Al9 T want isNew n b else Aiw hi lv (Ais T tk b)
def Akr (T:List Int) (hi:Int) (tk lv want:List (Int × Int)) (isNew:Int→Bool) (p op n:Int) (x:Ahh):Option Ahh:=Aii (Al5 T hi tk lv want isNew p op n ⟨x.locals,x.stack,false⟩)
def Ah3 (T:List Int):List (Int × Int)→List (Int × Int)→Bool
 | _,[]=>true
 | [],_::_=>false
 | s::ss,t::ts=>Tr.fitsB T s.1 s.2 t.1 t.2&&Ah3 T ss ts
theorem Dw {T:List Int} (hT:Tr.Ok T):∀ (a b:List (Int × Int)),(∀ t∈a,Tr.Arg T t.1 t.2)→(∀ t∈b,Tr.Arg T t.1 t.2)→Aky T a b=Ah3 T a b
 | _,[],_,_=>by simp[Aky,Ah3]
 | [],_::_,_,_=>by simp[Aky,Ah3]
 | s::ss,t::ts,ha,hb=>by
  rw[Aky,Ah3,Tr.rfits_eq hT (ha s (by simp)) (hb t (by simp)),Dw hT ss ts (fun x hx=>ha x (by simp[hx])) (fun x hx=>hb x (by simp[hx]))]
theorem Po (T:List Int) (t x:Int × Int):∀ (a b:List (Int × Int)),a.length=b.length→Ah3 T (a++[t]) (b++[x])=(Ah3 T a b&&Tr.fitsB T t.1 t.2 x.1 x.2)
 | [],[],_=>by simp[Ah3]
 | [],_::_,h=>by simp at h
 | _::_,[],h=>by simp at h
 | s::ss,y::ys,h=>by
  simp only[List.cons_append,Ah3];rw[Po T t x ss ys (by simpa using h),Bool.and_assoc]
theorem Vy (b:Ahz):(Ahi b).2.lo=b.lo:=by unfold Ahi;split<;>rfl
theorem Sk (T:List Int) (t x:Int × Int) (b:Ahz):(Alx T t x b).lo=b.lo∧(Alx T t x b).st=b.st∧(Alx T t x b).br=(b.br || !Tr.fitsB T t.1 t.2 x.1 x.2):=by
 unfold Alx;cases Tr.fitsB T t.1 t.2 x.1 x.2<;>simp
theorem Vp {α:Type} (l:List α) (d:α) (h:l.length≠0):l=l.take (l.length-1)++[l.getD (l.length-1) d]:=by
 have hk:l.length-1<l.length:=by omega
 have:=List.take_succ_eq_append_getElem hk;rw[show l.length-1+1=l.length by omega,List.take_length]at this;rw[List.getD_eq_getElem?_getD,List.getElem?_eq_getElem hk];exact this
theorem Pl (T:List Int) (l:List (Int × Int)):∀ (k:Nat) (b:Ahz),b.br=true→(Air T l k b).br=true
 | 0,b,h=>h
 | k+1,b,h=>by
  unfold Air;refine Pl T l k _ ?_;rw[(Sk _ _ _ _).2.2];have:(Ahi b).2.br=true:=by unfold Ahi;split<;>simp[h]
  rw[this];rfl
theorem Lk (T:List Int) (l:List (Int × Int)):∀ (k:Nat),k≤l.length→∀ (b:Ahz),(Air T l k b).lo=b.lo ∧
  (k≤b.st.length→(Air T l k b).st=b.st.take (b.st.length-k)∧(Air T l k b).br=(b.br || !Ah3 T (b.st.drop (b.st.length-k)) (l.take k))) ∧
  (b.st.length<k→(Air T l k b).br=true)
 | 0,_,b=>by
  refine⟨rfl,fun _=>⟨?_,?_⟩,fun h=>by omega⟩
  ·simp[Air]
  ·simp[Air,Ah3]
 | k+1,hk,b=>by
  have hkl:k<l.length:=by omega
  unfold Air;obtain⟨i1,i2,i3⟩:=Lk T l k (by omega) (Alx T (Ahi b).1 (l.getD k (0,0)) (Ahi b).2);obtain⟨f1,f2,f3⟩:=Sk T (Ahi b).1 (l.getD k (0,0)) (Ahi b).2;rw[f1,Vy]at i1;rw[f2,f3]at i2;rw[f2]at i3;by_cases h0:b.st.length=0
  ·refine⟨i1,fun h=>by omega,fun _=>?_⟩;have e:Ahi b=((0,0),⟨b.lo,b.st,true⟩):=by unfold Ahi;rw[if_pos h0]
   refine Pl _ _ _ _ ?_;rw[f3,e];rfl
  ·have e:Ahi b=(b.st.getD (b.st.length-1) (0,0),⟨b.lo,b.st.take (b.st.length-1),b.br⟩):=by unfold Ahi;rw[if_neg h0]
   rw[e]at i1 i2 i3 ⊢;simp only at i1 i2 i3 ⊢;have hlen:(b.st.take (b.st.length-1)).length=b.st.length-1:=by simp
   rw[hlen]at i2 i3;refine⟨i1,fun h=>?_,fun h=>i3 (by omega)⟩;obtain⟨j1,j2⟩:=i2 (by omega);refine⟨?_,?_⟩
   ·rw[j1,List.take_take]
    congr 1;omega
   ·rw[j2];have hs:=Vp b.st (0,0) h0;have hd:b.st.drop (b.st.length-(k+1))=(b.st.take (b.st.length-1)).drop (b.st.length-1-k)++[b.st.getD (b.st.length-1) (0,0)]:=by
     conv=>lhs;rw[hs]
     rw[List.length_append,hlen,List.drop_append_of_le_length (by rw[hlen];simp)]
     congr 2
     simp only[List.length_singleton];omega
    have hl:l.take (k+1)=l.take k++[l.getD k (0,0)]:=by
     rw[List.take_succ_eq_append_getElem hkl,List.getD_eq_getElem?_getD,List.getElem?_eq_getElem hkl];rfl
    rw[hd,hl,Po _ _ _ _ _ (by simp;omega)];cases b.br<;>cases Ah3 T (List.drop (b.st.length-1-k) (List.take (b.st.length-1) b.st)) (List.take k l)<;>simp
theorem Ji {T:List Int} (hT:Tr.Ok T) (l:List (Int × Int)) (b:Ahz) (hb:∀ t∈b.st,Tr.Arg T t.1 t.2) (hl:∀ t∈l,Tr.Arg T t.1 t.2) :
  (Ais T l b).lo=b.lo∧(Ajr T b.st l=true→(Ais T l b).st=b.st.take (b.st.length-l.length)∧(Ais T l b).br=b.br)∧(Ajr T b.st l=false→(Ais T l b).br=true):=by
 obtain⟨h1,h2,h3⟩:=Lk T l l.length (Nat.le_refl _) b;unfold Ais Ajr;refine⟨h1,fun h=>?_,fun h=>?_⟩
 ·by_cases hn:b.st.length<l.length
  ·rw[if_pos hn]at h;cases h
  ·rw[if_neg hn,Dw hT _ _ (fun t ht=>hb t (List.mem_of_mem_drop ht)) hl]at h;obtain⟨g1,g2⟩:=h2 (by omega);refine⟨g1,?_⟩;rw[g2,List.take_length,h];simp
 ·by_cases hn:b.st.length<l.length
  ·exact h3 hn
  ·rw[if_neg hn,Dw hT _ _ (fun t ht=>hb t (List.mem_of_mem_drop ht)) hl]at h;obtain⟨g1,g2⟩:=h2 (by omega);rw[g2,List.take_length,h];simp
theorem Em {hi:Int}{t:Int × Int}{b:Ahz} (h:b.br=true):(Ah8 hi t b).br=true:=by unfold Ah8;split<;>simp[h]
theorem Lg {hi:Int}:∀ {l:List (Int × Int)}{b:Ahz},b.br=true→(Aiw hi l b).br=true
 | [],_,h=>h
 | _::r,_,h=>Lg (l:=r) (Em h)
theorem Vo {b:Ahz} (h:b.br=true):(Ahi b).2.br=true:=by unfold Ahi;split<;>simp[h]
theorem H9 {b:Ahz} (h:b.br=true):Aii b=none:=by unfold Aii;rw[if_pos h]
theorem Age {b:Ahz} (h:b.br=false):Aii b=some ⟨b.lo,b.st⟩:=by unfold Aii;rw[h];rfl
theorem Cb (a b:Int × Int) (l:List (Int × Int)):(Aif a b l).length=l.length:=by simp[Aif]
theorem Yr {T:List Int} (hT:Tr.Ok T) (hi:Int) (tk lv want:List (Int × Int)) (isNew:Int→Bool) (arg:Int→Int) (p op n:Int) (x:Ahh)
  (hs:∀ t∈x.stack,Tr.Arg T t.1 t.2) (htk:∀ t∈tk,Tr.Arg T t.1 t.2) (hwant:∀ t∈want,Tr.Arg T t.1 t.2) (hlv:lv.length≤1) (hhi:(x.stack.length:Int)≤hi)
  (hn:op=2∨op=3→0≤n∧n<(x.locals.length:Int)) (hnew:op=16→∀ t∈x.stack,t.1=4→(isNew t.2=true↔arg t.2=n)) :
  Akr T hi tk lv want isNew p op n x=Ai1 hi (Akl T tk lv want arg p op n x):=by
 unfold Akr Al5 Akl;by_cases h2:op=2
 ·rw[if_pos h2,if_pos h2];obtain⟨a1,a2⟩:=hn (.inl h2);unfold Al2;rw[if_neg (by omega),if_neg (by simpa using a2)];by_cases h0:(x.locals.getD n.toNat (0,0)).1=0
  ·rw[if_pos h0,if_pos h0];rfl
  ·rw[if_neg h0,if_neg h0];unfold Ah8 Ai1;by_cases hh:hi≤(x.stack.length:Int)
   ·rw[if_pos hh];simp[Aii];omega
   ·rw[if_neg hh];simp[Aii];omega
 rw[if_neg h2,if_neg h2];by_cases h3:op=3
 ·rw[if_pos h3,if_pos h3];obtain⟨a1,a2⟩:=hn (.inr h3);unfold Alw;rw[if_neg (by omega),if_neg (by simpa using a2)];unfold Ahi;by_cases hz:x.stack.length=0
  ·rw[if_pos (show x.stack.length<1 by omega)];simp[hz,Aii,Ai1]
  ·rw[if_neg (show ¬ x.stack.length<1 by omega)];simp only[hz,if_false];simp[Aii,Ai1];omega
 rw[if_neg h3,if_neg h3];by_cases h4:op=4
 ·rw[if_pos h4,if_pos h4];unfold Ahi;by_cases hz:x.stack.length=0
  ·rw[if_pos (show x.stack.length<1 by omega)];simp[hz,Aii,Ai1]
  ·rw[if_neg (show ¬ x.stack.length<1 by omega)];simp only[hz,if_false];simp[Aii,Ai1];omega
 rw[if_neg h4,if_neg h4];by_cases h5:op=5
 ·rw[if_pos h5,if_pos h5];unfold Amp Ahi;by_cases hz:x.stack.length=0
  ·rw[if_pos (show x.stack.length<1 by omega)];rw[H9 (Em (Em (by simp[hz])))];rfl
  ·rw[if_neg (show ¬ x.stack.length<1 by omega)];simp only[hz,if_false];have hsn:=Vp x.stack (0,0) hz;have hdr:x.stack.drop (x.stack.length-1)=[x.stack.getD (x.stack.length-1) (0,0)]:=by
    conv=>lhs;rw[hsn]
    rw[List.drop_append_of_le_length (by simp)]
    simp
   rw[hdr];have e1:Ah8 hi (x.stack.getD (x.stack.length-1) (0,0)) ⟨x.locals,x.stack.take (x.stack.length-1),false⟩=⟨x.locals,x.stack,false⟩:=by
    unfold Ah8;rw[if_neg (by simp;omega)];simp only[← hsn]
   rw[e1];unfold Ah8 Ai1;by_cases hh:hi≤(x.stack.length:Int)
   ·rw[if_pos hh];simp[Aii];omega
   ·rw[if_neg hh];simp[Aii];omega
 rw[if_neg h5,if_neg h5];by_cases h6:op=6
 ·rw[if_pos h6,if_pos h6];unfold Amo;by_cases hz:x.stack.length=0
  ·rw[if_pos (show x.stack.length<2 by omega)];have:(Ahi ⟨x.locals,x.stack,false⟩).2.br=true:=by unfold Ahi;simp[hz]
   rw[H9 (Em (Em (Vo this)))];rfl
  ·have e1:Ahi ⟨x.locals,x.stack,false⟩=(x.stack.getD (x.stack.length-1) (0,0),⟨x.locals,x.stack.take (x.stack.length-1),false⟩):=by unfold Ahi;simp only[hz,if_false]
   rw[e1];simp only;by_cases hz1:x.stack.length<2
   ·rw[if_pos hz1];have:(Ahi ⟨x.locals,x.stack.take (x.stack.length-1),false⟩).2.br=true:=by unfold Ahi;rw[if_pos (by simp;omega)]
    rw[H9 (Em (Em this))];rfl
   ·rw[if_neg hz1];have e2:Ahi ⟨x.locals,x.stack.take (x.stack.length-1),false⟩=(x.stack.getD (x.stack.length-2) (0,0),⟨x.locals,x.stack.take (x.stack.length-2),false⟩):=by
     unfold Ahi;rw[if_neg (by simp;omega)];simp only[List.length_take,List.take_take,List.getD_eq_getElem?_getD,List.getElem?_take];rw[show min (x.stack.length-1) x.stack.length-1=x.stack.length-2 by omega,if_pos (by omega),show min (x.stack.length-2) (x.stack.length-1)=x.stack.length-2 by omega]
    rw[e2];simp only;unfold Ah8;have l1:¬ hi≤((x.stack.take (x.stack.length-2)).length:Int):=by simp;omega
    rw[if_neg l1];have l2:¬ hi≤((x.stack.take (x.stack.length-2)++[x.stack.getD (x.stack.length-1) (0,0)]).length:Int):=by simp;omega
    simp only[l2,if_false];simp[Aii,Ai1];omega
 rw[if_neg h6,if_neg h6];by_cases h15:op=15
 ·rw[if_pos h15,if_pos h15];unfold Aki Ah8 Ai1;simp only[Cb];by_cases hh:hi≤(x.stack.length:Int)
  ·rw[if_pos hh];simp[Aii,Cb];omega
  ·rw[if_neg hh];simp[Aii,Cb];omega
 rw[if_neg h15,if_neg h15];by_cases h16:op=16
 ·rw[if_pos h16,if_pos h16];obtain⟨g1,g2,g3⟩:=Ji hT want ⟨x.locals,x.stack,false⟩ hs hwant;unfold Al9 Amb;simp only at g1 g2 g3;cases htop:Ajr T x.stack want with
  | false =>
   have:∀ t (b:Ahz),b.br=true→Aii (Ale isNew n t b)=none:=by
    intro t b hb;unfold Ale Aki
    split
    ·rfl
    ·split
     ·rfl
     ·exact H9 hb
   rw[this _ _ (Vo (g3 htop))];simp[Ai1]
  | true =>
   obtain⟨k1,k2⟩:=g2 htop;have hlw:want.length≤x.stack.length:=by
    unfold Ajr at htop;by_cases h:x.stack.length<want.length
    ·rw[if_pos h]at htop;cases htop
    ·omega
   rw[if_neg (by simp)];generalize hb:Ais T want ⟨x.locals,x.stack,false⟩=b at *;obtain⟨blo,bst,bbr⟩:=b;simp only at g1 k1 k2;subst g1 k1 k2;by_cases hz:x.stack.length<want.length+1
   ·rw[if_pos hz];have e:Ahi ⟨x.locals,x.stack.take (x.stack.length-want.length),false⟩=((0,0),⟨x.locals,x.stack.take (x.stack.length-want.length),true⟩):=by
     unfold Ahi;rw[if_pos (by simp;omega)]
    rw[e];simp[Ale,Aii,Ai1]
   ·rw[if_neg hz];have hix:x.stack.length-want.length-1<x.stack.length:=by omega
    have e:Ahi ⟨x.locals,x.stack.take (x.stack.length-want.length),false⟩=(x.stack.getD (x.stack.length-want.length-1) (0,0),⟨x.locals,x.stack.take (x.stack.length-want.length-1),false⟩):=by
     unfold Ahi;rw[if_neg (by simp;omega)];simp only[List.length_take,List.take_take,List.getD_eq_getElem?_getD,List.getElem?_take];rw[show min (x.stack.length-want.length) x.stack.length-1=x.stack.length-want.length-1 by omega,if_pos (by omega),show min (x.stack.length-want.length-1) (x.stack.length-want.length)=x.stack.length-want.length-1 by omega]
    rw[e];simp only;have hm:x.stack.getD (x.stack.length-want.length-1) (0,0)∈x.stack:=by
     rw[List.getD_eq_getElem?_getD,List.getElem?_eq_getElem hix];exact List.getElem_mem hix
    generalize x.stack.getD (x.stack.length-want.length-1) (0,0)=t at *;unfold Ale;by_cases ht:t.1=4
    ·rw[if_neg (show ¬ t.1≠4 from fun g=>g ht),if_neg (show ¬ t.1≠4 from fun g=>g ht)];have hiff:=hnew h16 t hm ht;by_cases ha:arg t.2=n
     ·rw[hiff.2 ha,if_neg (by simp),if_neg (show ¬ arg t.2≠n from fun g=>g ha)];unfold Aki Ai1;simp[Aii,Cb];omega
     ·have:isNew t.2=false:=by
       cases h:isNew t.2
       ·rfl
       ·exact absurd (hiff.1 h) ha
      rw[if_pos this,if_pos ha];rfl
    ·rw[if_pos ht,if_pos ht];rfl
 rw[if_neg h16,if_neg h16];obtain⟨g1,g2,g3⟩:=Ji hT tk ⟨x.locals,x.stack,false⟩ hs htk;simp only at g1 g2 g3;cases htop:Ajr T x.stack tk with
 | false=>rw[if_pos rfl,H9 (Lg (g3 htop))];rfl
 | true =>
  obtain⟨k1,k2⟩:=g2 htop;rw[if_neg (by simp)];generalize hb:Ais T tk ⟨x.locals,x.stack,false⟩=b at *;obtain⟨blo,bst,bbr⟩:=b;simp only at g1 k1 k2;subst g1 k1 k2
  match lv,hlv with
  | [],_ =>
   simp[Aiw,Aii,Ai1];omega
  | [t],_ =>
   simp only[Aiw,Ah8];by_cases hh:hi≤((x.stack.take (x.stack.length-tk.length)).length:Int)
   ·rw[if_pos hh];simp at hh;simp[Aii,Ai1];omega
   ·rw[if_neg hh];simp at hh;simp[Aii,Ai1];omega
def Ah0 (n:Int):List (List (Int × Int))→Int→Int→Int × Int
 | [],_,_=>(-1,0)
 | own::r,c,f=>if f≤n∧n-f<(own.length:Int) then (c,n-f) else Ah0 n r (c+1) (f+(own.length:Int))
def Akq (fs:List (List (Int × Int))) (c:Int):List (Int × Int):=if c<0 then [] else fs.getD c.toNat []
def Aj6 (fs:List (List (Int × Int))) (n:Int):Int × (Int × Int) :=
 if (Ah0 n fs 0 0).2<0 then (-1,(0,0)) else if ((Akq fs (Ah0 n fs 0 0).1).length:Int)≤(Ah0 n fs 0 0).2 then (-1,(0,0))
 else ((Ah0 n fs 0 0).1,(Akq fs (Ah0 n fs 0 0).1).getD (Ah0 n fs 0 0).2.toNat (0,0))
def Aid (T:List Int) (fs:List (List (Int × Int))) (c:Int):Nat→List (Int × Int)
 | 0=>[]
 | d+1=>Aid T fs c d++(if Tr.within T c (d:Int)=true then fs.getD d [] else [])
def Aht (T:List Int) (fs:List (List (Int × Int))) (c:Int):List (Int × Int):=Aid T fs c fs.length
theorem Xf {T:List Int} (hT:Tr.Ok T) {a b:Int} (ha:0≤a) (hl:a<(T.length:Int)) (hb:0≤b):Tr.within T a b=Tr.rbel T a b:=by
 refine Bool.eq_iff_iff.2 ?_;rw[Tr.rbel_iff hT ha hl hb];unfold Tr.within Tr.At;simp only[Bool.or_eq_true,beq_iff_eq];exact⟨fun h=>h.imp Eq.symm id,fun h=>h.imp Eq.symm id⟩
theorem Aaf {T:List Int} (hT:Tr.Ok T) {a b:Int} (ha:0≤a) (hl:a<(T.length:Int)) (hb:a<b):Tr.within T a b=false:=by
 unfold Tr.within;cases h:Tr.below T a b
 ·simp;omega
 ·have:=Tr.below_lt hT (by omega) hl h;omega
theorem Lc {T:List Int} (hT:Tr.Ok T) (cs:List Rd.Cls) {c:Int} (h0:0≤c) (hl:c<(T.length:Int)):∀ d:Nat,Aid T (cs.map Rd.Cls.fields) c d=Rf.allTo T cs c d
 | 0=>rfl
 | d+1=>by
  rw[Aid,Rf.allTo,Lc hT cs h0 hl d,Xf hT h0 hl (by omega)]
  congr 2
  rw[List.getD_eq_getElem?_getD,List.getD_eq_getElem?_getD,List.getElem?_map];cases cs[d]? <;> rfl
theorem Ll {T:List Int} (hT:Tr.Ok T) (fs:List (List (Int × Int))) {c:Nat} (hl:(c:Int)<(T.length:Int)):∀ d:Nat,Aid T fs (c:Int) (c+1+d)=Aid T fs (c:Int) (c+1)
 | 0=>rfl
 | d+1=>by
  rw[← Nat.add_assoc,Aid,Ll hT fs hl d,Aaf hT (by omega) hl (by omega)]
  simp
theorem Ug {T:List Int} (hT:Tr.Ok T) (cs:List Rd.Cls) (hcs:cs.length=T.length) {c:Nat} (hl:c<T.length):Aht T (cs.map Rd.Cls.fields) (c:Int)=Rf.all T cs c:=by
 unfold Aht Rf.all;rw[← Lc hT cs (by omega) (by omega),List.length_map];have:=Ll hT (cs.map Rd.Cls.fields) (c:=c) (by omega) (cs.length-(c+1));rw[show c+1+(cs.length-(c+1))=cs.length by omega]at this;exact this
theorem Mh (c base:Int) (own:List (Int × Int)):∀ (k i:Nat),i<k→(Rf.ownTo c base own k).getD i ⟨0,0,(0,0)⟩=⟨c,base+(i:Int),own.getD i (0,0)⟩
 | 0,_,h=>by omega
 | k+1,i,h=>by
  rw[Rf.ownTo];by_cases hi:i<k
  ·rw[List.getD_eq_getElem?_getD,List.getElem?_append_left (by rw[Gg];exact hi),← List.getD_eq_getElem?_getD];exact Mh c base own k i hi
  ·have:i=k:=by omega
   subst this;rw[List.getD_eq_getElem?_getD,List.getElem?_append_right (by rw[Gg];omega),Gg]
   simp
def Rf.fieldsAt (T:List Int) (cs:List Rd.Cls):Nat→Nat→List Rf.Fld
 | _,0=>[]
 | c,j+1=>Rf.ownOf T cs c++Rf.fieldsAt T cs (c+1) j
theorem Ja (T:List Int) (cs:List Rd.Cls):∀ (j c:Nat),Rf.fieldsAt T cs c (j+1)=Rf.fieldsAt T cs c j++Rf.ownOf T cs (c+j)
 | 0,c=>by simp[Rf.fieldsAt]
 | j+1,c=>by
  rw[Rf.fieldsAt,Ja T cs j (c+1),Rf.fieldsAt,List.append_assoc,show c+1+j=c+(j+1) by omega]
theorem Ky (T:List Int) (cs:List Rd.Cls):∀ j:Nat,Rf.fieldsTo T cs j=Rf.fieldsAt T cs 7 j
 | 0=>rfl
 | j+1=>by rw[Rf.fieldsTo,Ky T cs j,Ja]
theorem Sq (T:List Int) (cs:List Rd.Cls) (n:Nat):∀ (j c f:Nat),c+j=cs.length→f≤n→n-f<(Rf.fieldsAt T cs c j).length →
  ∃ q:Nat,c≤q∧q<cs.length∧∃ i:Nat,i<(cs.getD q ⟨0,[]⟩).fields.length∧Ah0 (n:Int) ((cs.drop c).map Rd.Cls.fields) (c:Int) (f:Int)=((q:Int),(i:Int)) ∧
   ((Rf.fieldsAt T cs c j).getD (n-f) ⟨0,0,(0,0)⟩).owner=(q:Int)∧((Rf.fieldsAt T cs c j).getD (n-f) ⟨0,0,(0,0)⟩).t=(cs.getD q ⟨0,[]⟩).fields.getD i (0,0)
 | 0,c,f,hc,hf,h=>by simp[Rf.fieldsAt]at h
 | j+1,c,f,hc,hf,h=>by
  have hcl:c<cs.length:=by omega
  rw[List.drop_eq_getElem_cons hcl,List.map_cons,Ah0];have hg:cs.getD c ⟨0,[]⟩=cs[c]:=by rw[List.getD_eq_getElem?_getD,List.getElem?_eq_getElem hcl];rfl
  have hol:(Rf.ownOf T cs c).length=cs[c].fields.length:=by rw[Rf.ownOf,Gg,hg]
  rw[Rf.fieldsAt]at h ⊢;by_cases hin:n-f<cs[c].fields.length
  ·refine⟨c,Nat.le_refl _,hcl,n-f,by rw[hg];exact hin,?_,?_,?_⟩
   ·rw[if_pos (by omega)]
    congr 1;omega
   ·rw[List.getD_eq_getElem?_getD,List.getElem?_append_left (by rw[hol];exact hin),← List.getD_eq_getElem?_getD,Rf.ownOf,Mh _ _ _ _ _ (by rw[hg];exact hin)]
   ·rw[List.getD_eq_getElem?_getD,List.getElem?_append_left (by rw[hol];exact hin),← List.getD_eq_getElem?_getD,Rf.ownOf,Mh _ _ _ _ _ (by rw[hg];exact hin)]
  ·rw[if_neg (by omega)];obtain⟨q,h1,h2,i,h3,h4,h5,h6⟩:=Sq T cs n j (c+1) (f+cs[c].fields.length) (by omega) (by omega) (by rw[List.length_append,hol]at h;omega);refine⟨q,by omega,h2,i,h3,?_,?_,?_⟩
   ·rw[← h4];push_cast;rfl
   ·rw[List.getD_eq_getElem?_getD,List.getElem?_append_right (by rw[hol];omega),← List.getD_eq_getElem?_getD,hol,← h5];congr 2;omega
   ·rw[List.getD_eq_getElem?_getD,List.getElem?_append_right (by rw[hol];omega),← List.getD_eq_getElem?_getD,hol,← h6];congr 2;omega
theorem Pw (n:Int) (r:List (List (Int × Int))) (f:Int):∀ (k:Nat) (c:Int),Ah0 n (List.replicate k []++r) c f=Ah0 n r (c+(k:Int)) f
 | 0,c=>by simp
 | k+1,c=>by
  rw[List.replicate_succ,List.cons_append,Ah0,if_neg (by simp)];simp only[List.length_nil];rw[show f+((0:Nat):Int)=f by omega,Pw n r f k (c+1)]
  congr 1;omega
theorem Me (T:List Int) (cs:List Rd.Cls) (h7:7≤cs.length) (hg:∀ i,i<7→(cs.getD i ⟨0,[]⟩).fields=[]) (n:Nat) (hn:n<(Rf.fieldsTo T cs (cs.length-7)).length) :
  Aj6 (cs.map Rd.Cls.fields) (n:Int)=(((Rf.fieldsTo T cs (cs.length-7)).getD n ⟨0,0,(0,0)⟩).owner,((Rf.fieldsTo T cs (cs.length-7)).getD n ⟨0,0,(0,0)⟩).t):=by
 rw[Ky]at hn ⊢;obtain⟨q,h1,h2,i,h3,h4,h5,h6⟩:=Sq T cs n (cs.length-7) 7 0 (by omega) (by omega) (by simpa using hn);have e:cs.map Rd.Cls.fields=List.replicate 7 []++(cs.drop 7).map Rd.Cls.fields:=by
  conv=>lhs;rw[← List.take_append_drop 7 cs,List.map_append]
  congr 1
  apply List.ext_getElem
  ·simp;omega
  ·intro i hi hi';have hi2:i<7:=by simpa using hi'
   have:=hg i hi2;rw[List.getD_eq_getElem?_getD,List.getElem?_eq_getElem (by omega)]at this;rw[List.getElem_map,List.getElem_take,List.getElem_replicate]
   simpa using this
 have ho:Ah0 (n:Int) (cs.map Rd.Cls.fields) 0 0=((q:Int),(i:Int)):=by
  rw[e,Pw];exact h4
 have hown:Akq (cs.map Rd.Cls.fields) (q:Int)=(cs.getD q ⟨0,[]⟩).fields:=by
  unfold Akq;rw[if_neg (by omega),List.getD_eq_getElem?_getD,List.getElem?_map,List.getD_eq_getElem?_getD,Int.toNat_natCast];cases cs[q]? <;> rfl
 unfold Aj6;rw[ho];simp only;rw[if_neg (by omega),hown,if_neg (by omega),Int.toNat_natCast];simp only[Nat.sub_zero]at h5 h6;rw[h5,h6]
end Go.Proofs.YtpcgnjolfahacaaGreat
