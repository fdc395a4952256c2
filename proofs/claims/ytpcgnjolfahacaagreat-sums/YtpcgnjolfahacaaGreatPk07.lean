/- a part of the proofs -/
import Derived.Deep.RegionHeld
import Derived.Deep.RegionHeld3
import Derived.Test.YtpcgnjolfahacaaGreatPk06
set_option maxRecDepth 100000
set_option maxHeartbeats 40000000
set_option linter.unusedVariables false
set_option linter.unusedSimpArgs false
namespace Go.Proofs.YtpcgnjolfahacaaGreat
open Go.RowKit
theorem TreeIn.set {w:World}{g b i:Nat}{l:List Int} (h:TreeIn w g l) (hb:b≠g) (u:Value):TreeIn (w.setCell ⟨b,i,none⟩ u) g l :=
 ⟨by simpa[World.setCell] using h.1,fun j hj=>by rw[World.cell?_setCell_other _ _ _ _ (by intro e;exact hb (congrArg Addr.block e))];exact h.2 j hj⟩
theorem Aai (fa1 fa2:Option Addr) (fc1 fc2:Nat) (lcs:List (Rd.Cls × Value)) (lms:List (Rd.Mth × MthV)) (bm:Nat) (w:World)
  (hm6:lms.length≤6) (hc6:lcs.length≤6) (hcf:∀ p∈lcs,p.1.fields.length≤1000) (hcs:ClssIn w bm (.slice fa1 lcs.length fc1) lcs) (hms:MthsIn w bm (.slice fa2 lms.length fc2) lms) (hbd:∀ p∈lms,Aji p.1) :
  Calls Tryz.prog 68 #[.agg #[.slice fa1 lcs.length fc1,.slice fa2 lms.length fc2]] w fun e w' =>
   e=.returned (.agg #[.int .i64 (Ahz ⟨lcs.map Prod.fst,lms.map Prod.fst⟩).1,.int .i64 (Ahz ⟨lcs.map Prod.fst,lms.map Prod.fst⟩).2.1,.int .i64 (Ahz ⟨lcs.map Prod.fst,lms.map Prod.fst⟩).2.2])∧Below w.heap.size w w':=by
 have HCS:∀ w',Below w.heap.size w w'→ClssIn w' bm (.slice fa1 lcs.length fc1) lcs:=fun w' h=>hcs.kp (Kp.of_below (e:=none) h) (by decide) (by decide);have HMS:∀ w',Below w.heap.size w w'→MthsIn w' bm (.slice fa2 lms.length fc2) lms:=fun w' h=>hms.kp (Kp.of_below (e:=none) h) (by decide) (by decide) (by decide) (by decide) (by decide);have hIC:=fun w' (h:Below w.heap.size w w')=>Qc fa1 fa2 lcs.length fc1 lms.length fc2 bm lcs w' hc6 hcf (HCS w' h);have hTO:=fun w' (h:Below w.heap.size w w')=>Ev fa1 fa2 lcs.length fc1 lms.length fc2 bm lcs w' hc6 (HCS w' h);have hTl:(Tr.tree (lcs.map Prod.fst)).length≤1000:=by rw[Br];simp;omega
 have hIH:=fun ya yn yc tg cap w' (h:Below w.heap.size w w') hTr=>Tl (ya:=ya) (yn:=yn) (yc:=yc) fa1 fa2 lcs.length fc1 fc2 lms (Tr.tree (lcs.map Prod.fst)) tg cap bm w' hTl hTr hm6 (HMS w' h) (fun p hp=>by have:=(hbd p hp).ps;omega);have hIB:=fun ya yn yc tg cap w' (h:Below w.heap.size w w') hTr=>Sg (ya:=ya) (yn:=yn) (yc:=yc) fa1 fa2 fc1 fc2 lcs lms (Tr.tree (lcs.map Prod.fst)) tg cap bm w' hTl hTr hm6 hc6 hcf (HCS w' h) (HMS w' h) hbd;have how:(lms.map fun p=>p.1.cl)=(lms.map Prod.fst).map Rd.Mth.cl:=by simp
 rw[how]at hIB;generalize hR:Ahz ⟨lcs.map Prod.fst,lms.map Prod.fst⟩=R;unfold Ahz Ajn at hR;simp only at hR;generalize Tr.tree (lcs.map Prod.fst)=T at *;generalize Tr.inCl T 0 (lcs.map Prod.fst)=ic at *;generalize Agh T (Cd.fieldSum (lcs.map Prod.fst):Int) ((lms.map Prod.fst).map Rd.Mth.cl) 0 (lms.map Prod.fst)=bo at *;generalize hhd:Ag7 T (lms.map Prod.fst) 0 (lms.map Prod.fst)=hd at *;obtain⟨i1,i2⟩:=ic;obtain⟨b1,b2,b3⟩:=bo;obtain⟨R1,R2,R3⟩:=R;simp only at hIC hIB hR;have HIC:=Ac hIC;have HTO:=Ac hTO;have HIH:=Ac hIH;have HIB:=Ac hIB;clear hIC hTO hIH hIB HCS HMS hcs hms how hhd hbd;have hB0:=Ai w (O1 fa1 lcs.length fc1 fa2 lms.length fc2) (O8 0 0 0);have C0:=Ak w (O1 fa1 lcs.length fc1 fa2 lms.length fc2) (O8 0 0 0);have D0:=Ah w (O1 fa1 lcs.length fc1 fa2 lms.length fc2) (O8 0 0 0);by_cases h1:i1=0
 ·subst h1;rw[if_neg (by simp)]at hR;by_cases h2:0≤hd
  ·rw[if_pos h2]at hR;have HE:=Ac hR;have hre:Ajy hd=(4,hd):=if_pos h2;rw[hre]at HIH;simp only at HIH;clear hR hre h2;go_enter Tryz.func68,Tryz.ntmps68;go_wp2_with fail
   refine(Aa HIC _ hB0).mono ?_;rintro e w1 ⟨rfl,hb1⟩;have hB1:=(QB hB0 hb1);have C1:=stay hb1 C0;have D1:=stay hb1 D0;have hs1:=hB1.size;have lD1:=lt_of_block D1;obtain⟨x0,x1⟩:=cl2 C1;have l1:=lt_of_block C1;simp at x0 x1;have hB1':=hB1.alloc hs1 (O8 0 i2 0);have C1':=Af C1 (O8 0 i2 0);have D1':=Af D1 (O8 0 i2 0);have E1':=Ad w1 (O8 0 i2 0);clear C0 D0 hB0 hb1;go_wp2_with fail
   refine(Aa HTO _ hB1').mono ?_;rintro e w2 ⟨tg,cap,ya,yn,yc,rfl,hTr,-,-,hb2⟩;have hB2:=hB1'.trans (hb2.mono hB1'.size);have C2:=stay hb2 C1';have D2:=stay hb2 D1';have E2:=stay hb2 E1';have hs2:=hB2.size;obtain⟨y0,y1⟩:=cl2 C2;have l2:=lt_of_block C2;simp at y0 y1;have hB2':=hB2.alloc hs2 (O2 (some ⟨tg,0,none⟩) T.length cap ya yn yc);have D2':=Af D2 (O2 (some ⟨tg,0,none⟩) T.length cap ya yn yc);have E2':=Af E2 (O2 (some ⟨tg,0,none⟩) T.length cap ya yn yc);clear x0 x1 l1 C1 D1 C1' D1' E1' hB1' hb2;go_wp2_with fail
   refine(Aa HIH ya yn yc tg cap _ hB2' (hTr.alloc _)).mono ?_;rintro e w3 ⟨rfl,hb3⟩;have hB3:=hB2'.trans (hb3.mono hB2'.size);have D3:=stay hb3 D2';have E3:=stay hb3 E2';have hs3:=hB3.size;have lE:=lt_of_block E3;have lD:=lt_of_block D3;obtain⟨e0,e1,e2⟩:=cl3 E3;obtain⟨g0,g1,g2⟩:=fr3 E3;obtain⟨z0,z1,z2⟩:=cl3 D3;obtain⟨q0,q1,q2⟩:=fr3 D3;simp at e0 e1 e2 z0 z1 z2;clear y0 y1 l2 C2 D2 E2 D2' E2' hB2' hb3;have hne:w1.heap.size≠w.heap.size+1:=by omega
   have hne':w.heap.size+1≠w1.heap.size:=by omega
   go_wp2_with fail
   refine bodyPost_ret (v:=.agg #[.int .i64 4,.int .i64 hd,.int .i64 0]) (by simp[results,Tryz.results68,go_sem,z0,z1,z2]) rfl ?_;have e:=Aa HE;simp only[Prod.mk.injEq]at e;obtain⟨rfl,rfl,rfl⟩:=e;exact⟨rfl,(((((hB3.setCell (by simp;omega) _).setCell (by simp;omega) _).setCell (by simp;omega) _).setCell (by simp) _).setCell (by simp) _).setCell (by simp) _⟩
  ·rw[if_neg h2]at hR;have HE:=Ac hR;have hre:Ajy hd=(0,0):=if_neg h2;rw[hre]at HIH;simp only at HIH;clear hR hre h2;go_enter Tryz.func68,Tryz.ntmps68;go_wp2_with fail
   refine(Aa HIC _ hB0).mono ?_;rintro e w1 ⟨rfl,hb1⟩;have hB1:=(QB hB0 hb1);have C1:=stay hb1 C0;have D1:=stay hb1 D0;have hs1:=hB1.size;have lD1:=lt_of_block D1;obtain⟨x0,x1⟩:=cl2 C1;have l1:=lt_of_block C1;simp at x0 x1;have hB1':=hB1.alloc hs1 (O8 0 i2 0);have C1':=Af C1 (O8 0 i2 0);have D1':=Af D1 (O8 0 i2 0);have E1':=Ad w1 (O8 0 i2 0);clear C0 D0 hB0 hb1;go_wp2_with fail
   refine(Aa HTO _ hB1').mono ?_;rintro e w2 ⟨tg,cap,ya,yn,yc,rfl,hTr,-,htg,hb2⟩;have hB2:=hB1'.trans (hb2.mono hB1'.size);have C2:=stay hb2 C1';have D2:=stay hb2 D1';have E2:=stay hb2 E1';have hs2:=hB2.size;obtain⟨y0,y1⟩:=cl2 C2;have l2:=lt_of_block C2;simp at y0 y1;have hB2':=hB2.alloc hs2 (O2 (some ⟨tg,0,none⟩) T.length cap ya yn yc);have C2':=Af C2 (O2 (some ⟨tg,0,none⟩) T.length cap ya yn yc);have T2':=Ad w2 (O2 (some ⟨tg,0,none⟩) T.length cap ya yn yc);have D2':=Af D2 (O2 (some ⟨tg,0,none⟩) T.length cap ya yn yc);have E2':=Af E2 (O2 (some ⟨tg,0,none⟩) T.length cap ya yn yc);have hb2':w1.heap.size<w2.heap.size:=lt_of_block E2;clear x0 x1 l1 C1 D1 C1' D1' E1' hB1' hb2;go_wp2_with fail
   refine(Aa HIH ya yn yc tg cap _ hB2' (hTr.alloc _)).mono ?_;rintro e w3 ⟨rfl,hb3⟩;have hB3:=hB2'.trans (hb3.mono hB2'.size);have D3:=stay hb3 D2';have E3:=stay hb3 E2';have hs3:=hB3.size;have lE:=lt_of_block E3;have lD:=lt_of_block D3;obtain⟨e0,e1,e2⟩:=cl3 E3;obtain⟨g0,g1,g2⟩:=fr3 E3;simp at e0 e1 e2;have C3:=stay hb3 C2';have T3:=stay hb3 T2';have lC:=lt_of_block C3;have lT:=lt_of_block T3;obtain⟨c0,c1⟩:=cl2 C3;obtain⟨t0,t1⟩:=cl2 T3;simp at c0 c1 t0 t1;have hTr3:=(hTr.alloc (O2 (some ⟨tg,0,none⟩) T.length cap ya yn yc)).below hb3;clear y0 y1 l2 C2 D2 E2 D2' E2' C2' T2' hB2' hb3;have hne:w1.heap.size≠w.heap.size+1:=by omega
   have hne':w.heap.size+1≠w1.heap.size:=by omega
   have hne2:w2.heap.size≠w1.heap.size:=by omega
   have htg':w1.heap.size≠tg:=by simp at htg;omega
   have hTr4:=((hTr3.set (i:=0) htg' (.int .i64 0)).set (i:=1) htg' (.int .i64 0)).set (i:=2) htg' (.int .i64 0);have hB4:=((hB3.setCell (p:=⟨w1.heap.size,0,none⟩) (by simp;omega) (.int .i64 0)).setCell (p:=⟨w1.heap.size,1,none⟩) (by simp;omega) (.int .i64 0)).setCell (p:=⟨w1.heap.size,2,none⟩) (by simp;omega) (.int .i64 0);have D4:(((w3.setCell ⟨w1.heap.size,0,none⟩ (.int .i64 0)).setCell ⟨w1.heap.size,1,none⟩ (.int .i64 0)).setCell ⟨w1.heap.size,2,none⟩ (.int .i64 0)).heap[w.heap.size+1]?=some (O8 0 0 0):=by
    rw[Below.heap_setCell _ _ _ _ (by simpa using hne'),Below.heap_setCell _ _ _ _ (by simpa using hne'),Below.heap_setCell _ _ _ _ (by simpa using hne')];exact D3
   clear D3 hTr3 hTr hB3;go_wp2_with fail
   refine(Aa HIB ya yn yc tg cap _ hB4 hTr4).mono ?_;rintro e w5 ⟨rfl,hb5⟩;have hB5:=QB hB4 hb5;have D5:=stay hb5 D4;obtain⟨z0,z1,z2⟩:=cl3 D5;obtain⟨q0,q1,q2⟩:=fr3 D5;simp at z0 z1 z2;go_wp2_with fail
   refine bodyPost_ret (v:=.agg #[.int .i64 b1,.int .i64 b2,.int .i64 b3]) (by simp[results,Tryz.results68,go_sem,z0,z1,z2]) rfl ?_;have e:=Aa HE;simp only[Prod.mk.injEq]at e;obtain⟨rfl,rfl,rfl⟩:=e;exact⟨rfl,((hB5.setCell (by simp) _).setCell (by simp) _).setCell (by simp) _⟩
 ·rw[if_pos h1]at hR;have HE:=Ac hR;have h1':(i1 != 0)=true:=by simpa using h1
  clear hR h1;go_enter Tryz.func68,Tryz.ntmps68;go_wp2_with fail
  refine(Aa HIC _ hB0).mono ?_;rintro e w1 ⟨rfl,hb1⟩;have hB1:=(QB hB0 hb1);have D1:=stay hb1 D0;have hs1:=hB1.size;have lD:=lt_of_block D1;obtain⟨z0,z1,z2⟩:=cl3 D1;obtain⟨q0,q1,q2⟩:=fr3 D1;simp at z0 z1 z2;go_wp2_with fail
  refine bodyPost_ret (v:=.agg #[.int .i64 i1,.int .i64 i2,.int .i64 0]) (by simp[results,Tryz.results68,go_sem,z0,z1,z2,lD]) rfl ?_;have e:=Aa HE;simp only[Prod.mk.injEq]at e;obtain⟨rfl,rfl,rfl⟩:=e;exact⟨rfl,(((hB1.setCell (by simp) _).setCell (by simp) _).setCell (by simp) _).alloc (by simp;omega) _⟩
theorem Re {α β:Type}{l:List (α × β)}{r:List α} (h:l.map Prod.fst=r) {P:α→Prop} (hp:∀ x∈r,P x):∀ p∈l,P p.1:=by
 intro p hpm;refine hp p.1 ?_;rw[← h];exact List.mem_map_of_mem hpm
theorem Sw {T:List Int}{nf:Int}{ow:List Int}:∀ (l:List Rd.Mth) (k:Nat),(Agh T nf ow k l).1=0→Agh T nf ow k l=(0,0,0):=by
 intro l
 induction l with
 | nil=>intro k _;rfl
 | cons m r ih =>
  intro k h;unfold Agh at h ⊢;by_cases h0:(Ah0 T nf ow m).1≠0
  ·rw[if_pos h0]at h;exact absurd h h0
  ·rw[if_neg h0]at h ⊢;exact ih _ h
theorem Xi (f:Rd.Fil) (h:(Ahz f).1=0):Ahz f=(0,0,0):=by
 unfold Ahz at h ⊢;by_cases h1:(Tr.inCl (Tr.tree f.classes) 0 f.classes).1≠0
 ·rw[if_pos h1]at h;exact absurd h h1
 ·rw[if_neg h1]at h ⊢;unfold Ajn at h ⊢;by_cases h2:0≤Ag7 (Tr.tree f.classes) f.methods 0 f.methods
  ·rw[if_pos h2]at h;simp at h
  ·rw[if_neg h2]at h ⊢;exact Sw _ _ h
theorem On (s:ByteArray) (w:World) (hs:s.size≤maxLen) :
  Calls Tryz.prog 45 #[.string s] w fun e w' =>
   ∃ a1 n1 c1 a2 n2 c2,e=.returned (.tuple #[.agg #[.slice a1 n1 c1,.slice a2 n2 c2],.agg #[.int .i64 (Aga s.data.toList).1,.int .i64 (Aga s.data.toList).2.1,.int .i64 (Aga s.data.toList).2.2]]) ∧
    ((Aga s.data.toList).1=0→∃ lcs lms,lcs.map Prod.fst=(Rd.read s.data.toList).1.classes∧ClssIn w' w.heap.size (.slice a1 n1 c1) lcs∧lms.map Prod.fst=(Rd.read s.data.toList).1.methods∧MthsIn w' w.heap.size (.slice a2 n2 c2) lms)∧Below w.heap.size w w':=by
 have hRd:=fun w=>Abm s w hs;obtain⟨hm6,hmb⟩:=Hn s.data.toList;obtain⟨hc6,hcf⟩:=H9 s.data.toList;have hPz:(Aga s.data.toList).1=0→Aga s.data.toList=(0,0,0):=by
  intro h;unfold Aga at h ⊢;by_cases h1:(Rd.read s.data.toList).2≠0
  ·rw[if_pos h1]at h;exact absurd h h1
  ·rw[if_neg h1]at h ⊢;exact Xi _ h
 generalize hP:Aga s.data.toList=P at *;unfold Aga at hP;generalize Rd.read s.data.toList=q at *;obtain⟨⟨cs,ms⟩,er⟩:=q;obtain⟨P1,P2,P3⟩:=P;simp only[Prod.mk.injEq]at hRd hm6 hmb hc6 hcf hP hPz ⊢;have HPZ:=Ac hPz;clear hPz;have HRD:=Ac hRd;have HMB:=Ac hmb;have HCF:=Ac hcf;clear hRd hmb hcf;have hB0:=Ai w (O1 none 0 0 none 0 0) (O8 0 0 0);have C0:=Ak w (O1 none 0 0 none 0 0) (O8 0 0 0);have D0:=Ah w (O1 none 0 0 none 0 0) (O8 0 0 0);by_cases h1:er=0
 ·subst h1;rw[if_neg (by simp)]at hP;have HP:=Ac hP;clear hP;go_enter Tryz.func45,Tryz.ntmps45;go_wp2_with fail
  refine(Aa HRD _).mono ?_;rintro e w1 ⟨a1,n1,c1,a2,n2,c2,rfl,⟨lcs,hl1,hcs⟩,⟨lms,hl2,hms⟩,hb1⟩;obtain⟨xa,xc,hsh⟩:=Ae hcs.1;simp only[Value.slice.injEq]at hsh;obtain⟨rfl,rfl,rfl⟩:=hsh;obtain⟨xa,xc,hsh⟩:=Ae hms.1;simp only[Value.slice.injEq]at hsh;obtain⟨rfl,rfl,rfl⟩:=hsh;have hB1:=QB hB0 hb1;have hs1:=hB1.size;have C1:=stay hb1 C0;have D1:=stay hb1 D0;have lC:=lt_of_block C1;have lD:=lt_of_block D1;have hcs':ClssIn w1 (w.heap.size+1+1) (.slice a1 lcs.length c1) lcs:=by simpa using hcs
  have hms':MthsIn w1 (w.heap.size+1+1) (.slice a2 lms.length c2) lms:=by simpa using hms
  have hK1:Kp none (w.heap.size+1+1) w1 (w1.alloc (O1 a1 lcs.length c1 a2 lms.length c2)):=Kp.alloc _ _;have hfi:=Aai a1 a2 c1 c2 lcs lms (w.heap.size+1+1) (w1.alloc (O1 a1 lcs.length c1 a2 lms.length c2))
   (by have:=congrArg List.length hl2;simp at this;omega) (by have:=congrArg List.length hl1;simp at this;omega) (Re hl1 (Aa HCF)) (hcs'.kp hK1 (by decide) (by decide)) (hms'.kp hK1 (by decide) (by decide) (by decide) (by decide) (by decide)) (Re hl2 (Aa HMB))
  rw[hl1,hl2,Aa HP]at hfi;have HFI:=Ac hfi;have hB1':=hB1.alloc hs1 (O1 a1 lcs.length c1 a2 lms.length c2);have C1':=Af C1 (O1 a1 lcs.length c1 a2 lms.length c2);have D1':=Af D1 (O1 a1 lcs.length c1 a2 lms.length c2);have E1':=Ad w1 (O1 a1 lcs.length c1 a2 lms.length c2);clear hfi hcs hms hb1 C0 D0 hB0 C1 D1 hK1;go_wp2_with fail
  refine(Aa HFI).mono ?_;rintro e w2 ⟨rfl,hb2⟩;have hB2:=hB1'.trans (hb2.mono hB1'.size);have C2:=stay hb2 C1';have D2:=stay hb2 D1';have E2:=stay hb2 E1';have hcs2:=(hcs'.kp (Kp.alloc (e:=none) w1 (O1 a1 lcs.length c1 a2 lms.length c2)) (by decide) (by decide)).kp (Kp.of_below (e:=none) hb2) (by decide) (by decide);have hms2:=(hms'.kp (Kp.alloc (e:=none) w1 (O1 a1 lcs.length c1 a2 lms.length c2)) (by decide) (by decide) (by decide) (by decide) (by decide)).kp (Kp.of_below (e:=none) hb2) (by decide) (by decide) (by decide) (by decide) (by decide);have hs2:=hB2.size;have lC2:=lt_of_block C2;have lD2:=lt_of_block D2;have lE2:=lt_of_block E2;obtain⟨x0,x1⟩:=cl2 E2;obtain⟨y0,y1⟩:=cl2 C2;obtain⟨z0,z1,z2⟩:=cl3 D2;obtain⟨p0,p1⟩:=fr2 C2;obtain⟨q0,q1,q2⟩:=fr3 D2;simp at x0 x1 y0 y1 z0 z1 z2;clear C1' D1' E1' hB1' hb2;by_cases h2:P1=0
  ·obtain⟨-,rfl,rfl⟩:=Aa HPZ h2;subst h2;go_wp2_with fail
   refine bodyPost_ret (v:=.tuple #[.agg #[.slice a1 lcs.length c1,.slice a2 lms.length c2],.agg #[.int .i64 0,.int .i64 0,.int .i64 0]]) (by simp[results,Tryz.results45,go_sem,y0,y1,z0,z1,z2,lC2,lD2]) rfl ?_;have k1:Kp none (w.heap.size+1+1) w2 ((((((w2.setCell ⟨w.heap.size,0,none⟩ (.slice a1 lcs.length c1)).setCell ⟨w.heap.size,1,none⟩ (.slice a2 lms.length c2)).setCell ⟨w.heap.size+1,0,none⟩ (.int .i64 0)).setCell ⟨w.heap.size+1,1,none⟩ (.int .i64 0)).setCell ⟨w.heap.size+1,2,none⟩ (.int .i64 0)).alloc (O8 0 0 0)) :=
    (((((Kp.set_lo (by omega) _).trans (Kp.set_lo (by omega) _)).trans (Kp.set_lo (by omega) _)).trans (Kp.set_lo (by omega) _)).trans (Kp.set_lo (by omega) _)).trans (Kp.alloc _ _)
   refine⟨a1,lcs.length,c1,a2,lms.length,c2,rfl,?_,?_⟩
   ·first | intro _;exact⟨lcs,lms,hl1,(hcs2.kp k1 (by decide) (by decide)).mono (by omega),hl2,(hms2.kp k1 (by decide) (by decide) (by decide) (by decide) (by decide)).mono (by omega)⟩ | exact⟨lcs,hl1,(hcs2.kp k1 (by decide) (by decide)).mono (by omega),lms,hl2,(hms2.kp k1 (by decide) (by decide) (by decide) (by decide) (by decide)).mono (by omega)⟩
   ·exact(((((hB2.setCell (by simp) _).setCell (by simp) _).setCell (by simp) _).setCell (by simp) _).setCell (by simp) _).alloc (by simp;omega) _
  ·have h2':(P1 != 0)=true:=by simpa using h2
   go_wp2;have H2:=Ac h2;clear h2
   go_region
   go_wp2_with fail
   refine bodyPost_ret (v:=.tuple #[.agg #[.slice none 0 0,.slice none 0 0],.agg #[.int .i64 P1,.int .i64 P2,.int .i64 P3]]) (by simp[results,Tryz.results45,go_sem,y0,y1,z0,z1,z2,lC2,lD2]) rfl ?_;refine⟨none,0,0,none,0,0,rfl,fun h=>absurd h (Aa H2),?_⟩;exact((((((hB2.setCell (by simp) _).setCell (by simp) _).setCell (by simp) _).setCell (by simp) _).setCell (by simp) _).alloc (by simp;omega) _).drew
 ·rw[if_pos h1]at hP;have h1':(er != 0)=true:=by simpa using h1
  simp only[Prod.mk.injEq]at hP;obtain⟨rfl,rfl,rfl⟩:=hP;have H1:=Ac h1;clear h1 HPZ;go_enter Tryz.func45,Tryz.ntmps45;go_wp2_with fail
  refine(Aa HRD _).mono ?_;rintro e w1 ⟨a1,n1,c1,a2,n2,c2,rfl,-,-,hb1⟩;have hB1:=QB hB0 hb1;have hs1:=hB1.size;have C1:=stay hb1 C0;have D1:=stay hb1 D0;have lC2:=lt_of_block C1;have lD2:=lt_of_block D1;obtain⟨y0,y1⟩:=cl2 C1;obtain⟨z0,z1,z2⟩:=cl3 D1;obtain⟨p0,p1⟩:=fr2 C1;obtain⟨q0,q1,q2⟩:=fr3 D1;simp at y0 y1 z0 z1 z2;go_wp2_with fail
  refine bodyPost_ret (v:=.tuple #[.agg #[.slice none 0 0,.slice none 0 0],.agg #[.int .i64 er,.int .i64 0,.int .i64 0]]) (by simp[results,Tryz.results45,go_sem,y0,y1,z0,z1,z2,lC2,lD2]) rfl ?_;refine⟨none,0,0,none,0,0,rfl,fun h=>absurd h (Aa H1),?_⟩;exact(((((hB1.setCell (by simp) _).setCell (by simp) _).setCell (by simp) _).setCell (by simp) _).setCell (by simp) _).alloc (by simp;omega) _
theorem Fg {α:Type} (f:α→List UInt8) (c:Nat) (l:List α) (h:∀ x∈l,(f x).length≤c):(l.flatMap f).length≤l.length*c:=by
 induction l with
 | nil=>simp
 | cons x r ih =>
  have h1:=h x (List.mem_cons_self ..);have h2:=ih (fun y hy=>h y (List.mem_cons_of_mem _ hy));simp only[List.flatMap_cons,List.length_append,List.length_cons,Nat.add_mul];omega
def TyR (w:World) (v:Value) (l:List (Int × Int)):Prop :=
 (v=.slice none 0 0∧l=[])∨∃ g o c cur,v=.slice (some ⟨g,o,none⟩) l.length c∧w.heap[g]?=some (.cells cur 31 (0,0))∧l.length≤c∧c≤maxLen∧∀ j x,(An l)[j]?=some x→w.cell? ⟨g,o+j,none⟩=some x
theorem TyR.nil (w:World):TyR w (.slice none 0 0) []:=.inl ⟨rfl,rfl⟩
theorem TyR.of_tys {w:World}{b:Nat}{v:Value}{l:List (Int × Int)} (h:TysAt w b v l):TyR w v l:=by
 obtain⟨hl,⟨hv,hn⟩|⟨g,cap,cur,hv,hb,hg,hlen,hm,hsz,htk⟩⟩:=h
 ·exact .inl ⟨hv,List.eq_nil_of_length_eq_zero hn⟩
 ·refine .inr ⟨g,0,cap,cur,hv,hg,hlen,hm,fun j u hu=>?_⟩;have hj:j<(An l).length:=(List.getElem?_eq_some_iff.1 hu).1;rw[Nat.zero_add,Ab hg,← hu,← htk,List.getElem?_take,if_pos (by rw[hl]at hj;exact hj)]
  simp
theorem TyR.below {w w':World}{v:Value}{l:List (Int × Int)} (h:TyR w v l) (hb:Below w.heap.size w w'):TyR w' v l:=by
 rcases h with h|⟨g,o,c,cur,hv,hg,h1,h2,h3⟩
 ·exact .inl h
 ·exact .inr ⟨g,o,c,cur,hv,(hb.block g (lt_of_block hg)).trans hg,h1,h2,fun j x hx=>by rw[hb.cell (p:=⟨g,o+j,none⟩) (lt_of_block hg)];exact h3 j x hx⟩
theorem TyR.shape {w:World}{v:Value}{l:List (Int × Int)} (h:TyR w v l):∃ a c,v=.slice a l.length c:=by
 rcases h with ⟨rfl,rfl⟩|⟨g,o,c,cur,hv,_⟩
 ·exact⟨none,0,rfl⟩
 ·exact⟨_,c,hv⟩
theorem TyR.cap {w:World}{a:Option Addr}{n c:Nat}{l:List (Int × Int)} (h:TyR w (.slice a n c) l):n=l.length∧l.length≤c∧c≤maxLen:=by
 rcases h with ⟨h1,rfl⟩|⟨g,o,c',cur,hv,_,h1,h2,_⟩
 ·simp only[Value.slice.injEq]at h1;obtain⟨_,rfl,rfl⟩:=h1;exact⟨rfl,Nat.le_refl _,Nat.zero_le _⟩
 ·simp only[Value.slice.injEq]at hv;obtain⟨_,rfl,rfl⟩:=hv;exact⟨rfl,h1,h2⟩
theorem TyR.at {w:World}{a:Option Addr}{n c:Nat}{l:List (Int × Int)} (h:TyR w (.slice a n c) l) (hn:0<l.length) :
  ∃ g o,a=some ⟨g,o,none⟩∧g<w.heap.size∧∀ k (hk:k<l.length),w.cell? ⟨g,o+k*2,none⟩=some (.int .i64 l[k].1)∧w.cell? ⟨g,o+k*2+1,none⟩=some (.int .i64 l[k].2):=by
 rcases h with ⟨_,rfl⟩|⟨g,o,c',cur,hv,hg,_,_,h3⟩
 ·simp at hn
 ·simp only[Value.slice.injEq]at hv;refine⟨g,o,hv.1,lt_of_block hg,fun k hk=>?_⟩;obtain⟨e1,e2,_⟩:=Db l k hk;exact⟨h3 _ _ e1,by rw[Nat.add_assoc];exact h3 _ _ e2⟩
theorem Ti (l:List (Int × Int)) (k:Nat):An (l.take k)=(An l).take (k*2):=by
 induction l generalizing k with
 | nil=>simp[An]
 | cons x r ih =>
  cases k with
  | zero=>simp[An]
  | succ j =>
   have e:An (x::r)=.int .i64 x.1 :: .int .i64 x.2::An r:=by simp[An]
   have e':An (x::r.take j)=.int .i64 x.1 :: .int .i64 x.2::An (r.take j):=by simp[An]
   rw[List.take_succ_cons,e,e',ih,show (j+1)*2=j*2+1+1 by omega,List.take_succ_cons,List.take_succ_cons]
theorem TyR.new1 (w:World) (k n:Int):TyR (w.alloc (O7 k n)) (.slice (some ⟨w.heap.size,0,none⟩) 1 1) [(k,n)]:=by
 refine .inr ⟨w.heap.size,0,1,_,rfl,Ad w _,by simp,by unfold maxLen;omega,fun j x hx=>?_⟩;rw[Ab (Ad w _),Nat.zero_add]
 simpa[An] using hx
theorem TyR.new2 (w:World) (k n k' n':Int):TyR (w.alloc (O16 k n k' n')) (.slice (some ⟨w.heap.size,0,none⟩) 2 2) [(k,n),(k',n')]:=by
 refine .inr ⟨w.heap.size,0,2,_,rfl,Ad w _,by simp,by unfold maxLen;omega,fun j x hx=>?_⟩;rw[Ab (Ad w _),Nat.zero_add]
 simpa[An] using hx
theorem Er {w:World}{ops:Array Oper}{rest:List Oper}{o:Oper}{a:Act}{Q:Exit→Act→World→Prop} (hgd:o.guard=none) (s x:Operand)
  (ho:o.op=.call { callee:=.builtin .append,args:=#[s,x],argTypes:=#[105,105] })
  (base:Nat) (v:Value) (xs ys:List (Int × Int)) (va:Option Addr) (vl vc:Nat) (hs:a.eval s=v) (hown:w.ownsRow base 31 2 v xs.length (An xs)) (hx:a.eval x=.slice va vl vc) (hy:TyR w (.slice va vl vc) ys)
  (h1:xs.length+ys.length≤100000) (hbase:base≤w.heap.size)
  (h:∀ v' w',w'.ownsRow base 31 2 v' (xs++ys).length (An (xs++ys))→w.grownBy w' v.ownBlock→wpList Tryz.prog ops Q rest (a.put o.dst v') w'):wpList Tryz.prog ops Q (o::rest) a w:=by
 obtain⟨i0,hi,hz0,hz1,hz2⟩:=info_parts Tryz.infoType;rcases hy with ⟨hv,rfl⟩|⟨g,of,c,cur,hv,hg,hc,hm,h3⟩
 ·refine wpList_append_own_none hgd s x _ ho base 31 i0 2 Tryz.underlying105 hi v _ _ hs hown (hx.trans hv) ?_;exact h v w (by simpa using hown) (World.grownBy.refl _ _)
 ·refine wpList_append_own w hgd s x _ ho base 31 i0 _ 2 16 Tryz.underlying105 hi hz0 hz1 hz2 rfl (by omega) v _ _ hs hown ⟨g,of,none⟩ ys.length c (An ys) (hx.trans hv) (Iv ys) ?_ (Vh ys) (by unfold maxLen;omega) (by omega) hbase ?_
  ·intro j u hu;rw[Addr.add_lit];exact h3 j u hu
  ·intro v' w' ho' hg' _;exact h v' w' (by rw[List.length_append,Ew];exact ho') hg'
structure Afb where
 locals:List (Int × Int)
 stack:List (Int × Int)
def Agq (r:Int × Int):List (Int × Int):=if r.1=0 then [] else [r]
def Af4 (a b:Int × Int) (l:List (Int × Int)):List (Int × Int):=l.map fun x=>if x=a then b else x
def Aio (T:List Int):List (Int × Int)→List (Int × Int)→Bool
 | _,[]=>true
 | [],_::_=>false
 | s::ss,t::ts=>Tr.rfits T s.1 s.2 t.1 t.2&&Aio T ss ts
def Age (T:List Int) (st want:List (Int × Int)):Bool:=if st.length<want.length then false else Aio T (st.drop (st.length-want.length)) want
def Afh (T:List Int) (a b:Afb):Bool :=
 if a.stack.length≠b.stack.length then false else if a.locals.length≠b.locals.length then false else Age T a.locals b.locals&&Age T a.stack b.stack
theorem Ba {B n:Nat}{a w:World} (h:Below B a w):Below B a (w.drewN n):=⟨h.os,h.tape,h.output,h.size,h.block⟩
theorem Th (a b:Int × Int) (l:List (Int × Int)) (q:Nat) (hq:q<l.length):Af4 a b (l.take (q+1))=Af4 a b (l.take q)++[if l[q]=a then b else l[q]]:=by
 unfold Af4;rw[List.take_succ_eq_append_getElem hq,List.map_append];rfl
theorem Fd {w:World}{b:Nat}{v:Value}{l:List (Int × Int)}{n:Nat} (h:w.ownsRow b 31 2 v n (An l)) (hn:n=l.length):TyR w v l:=by
 subst hn;exact TyR.of_tys h
structure FrV where
 la:Option Addr
 ln:Nat
 lc:Nat
 sa:Option Addr
 sn:Nat
 sc:Nat
def FrV.val (v:FrV):Value:=.agg #[.slice v.la v.ln v.lc,.slice v.sa v.sn v.sc]
structure FrV.is (v:FrV) (x:Afb) (w:World):Prop where
 lo:TyR w (.slice v.la v.ln v.lc) x.locals
 st:TyR w (.slice v.sa v.sn v.sc) x.stack
 hl:x.locals.length≤5000
 hs:x.stack.length≤5000
theorem FrV.is.below {v:FrV}{x:Afb}{w w':World} (h:v.is x w) (hb:Below w.heap.size w w'):v.is x w':=⟨h.lo.below hb,h.st.below hb,h.hl,h.hs⟩
def Afx (op:Int):Bool:=decide (op=11∨op=12∨op=13∨op=14)
def Af5 (op:Int):Bool:=decide (¬ (op=11∨op=22∨op=23))
def Ag8 (p:Int):List Rd.Mp→Option Afb
 | []=>none
 | m::r=>if m.place=p then some ⟨m.locals,m.stack⟩ else Ag8 p r
def Afs (x:Option Afb):Afb:=x.getD ⟨[],[]⟩
def Ajq (cl:Int) (ps:List (Int × Int)):List (Int × Int):=(if cl=255 then [] else [(3,cl)])++ps
def Aiy (cl:Int) (ps:List (Int × Int)) (lo:Nat):Afb:=⟨Ajq cl ps++List.replicate (lo-(Ajq cl ps).length) (0,0),[]⟩
def Ahy (F:List Rf.Fld) (ms:List Rd.Mth) (res:Int × Int) (op n:Int):List (Int × Int) :=
 if op=7∨op=8∨op=9∨op=10∨op=13 then [(1,0),(1,0)] else if op=12∨op=25 then [(1,0)] else if op=14∨op=19 then [(3,0)]
 else if op=17 then [(3,(F.getD n.toNat ⟨0,0,(0,0)⟩).owner)] else if op=18 then [(3,(F.getD n.toNat ⟨0,0,(0,0)⟩).owner),(F.getD n.toNat ⟨0,0,(0,0)⟩).t]
 else if op=20 then (ms.getD n.toNat ⟨0,0,[],(0,0),0,0,[],[],[]⟩).params else if op=21 then (3,(ms.getD n.toNat ⟨0,0,[],(0,0),0,0,[],[],[]⟩).cl)::(ms.getD n.toNat ⟨0,0,[],(0,0),0,0,[],[],[]⟩).params
 else if op=22 then Agq res else if op=23 then [(3,1)] else []
def Ahd (F:List Rf.Fld) (ms:List Rd.Mth) (op n:Int):List (Int × Int) :=
 if op=0∨op=7∨op=8∨op=9∨op=10∨op=24 then [(1,0)] else if op=1 then [(2,0)] else if op=17 then [(F.getD n.toNat ⟨0,0,(0,0)⟩).t]
 else if op=19 then [(3,n)] else if op=20∨op=21 then Agq (ms.getD n.toNat ⟨0,0,[],(0,0),0,0,[],[],[]⟩).result else []
def Aj7 (T:List Int) (want:List (Int × Int)) (arg:Int→Int) (c:Int) (x:Afb):Option Afb :=
 if Age T x.stack want=false then none else if x.stack.length<want.length+1 then none
 else if (x.stack.getD (x.stack.length-want.length-1) (0,0)).1≠4 then none
 else if arg (x.stack.getD (x.stack.length-want.length-1) (0,0)).2≠c then none
 else some ⟨Af4 (x.stack.getD (x.stack.length-want.length-1) (0,0)) (3,c) x.locals,Af4 (x.stack.getD (x.stack.length-want.length-1) (0,0)) (3,c) (x.stack.take (x.stack.length-want.length-1))⟩
def Aiz (T:List Int) (F:List Rf.Fld) (ms:List Rd.Mth) (want:Int→List (Int × Int)) (arg:Int→Int) (res:Int × Int) (p op n:Int) (x:Afb):Option Afb :=
 if op=2 then (if (x.locals.getD n.toNat (0,0)).1=0 then none else some ⟨x.locals,x.stack++[x.locals.getD n.toNat (0,0)]⟩)
 else if op=3 then (if x.stack.length<1 then none else some ⟨x.locals.set n.toNat (x.stack.getD (x.stack.length-1) (0,0)),x.stack.take (x.stack.length-1)⟩)
 else if op=4 then (if x.stack.length<1 then none else some ⟨x.locals,x.stack.take (x.stack.length-1)⟩)
 else if op=5 then (if x.stack.length<1 then none else some ⟨x.locals,x.stack++x.stack.drop (x.stack.length-1)⟩)
 else if op=6 then (if x.stack.length<2 then none else some ⟨x.locals,x.stack.take (x.stack.length-2)++[x.stack.getD (x.stack.length-1) (0,0),x.stack.getD (x.stack.length-2) (0,0)]⟩)
 else if op=15 then some ⟨Af4 (4,p) (0,0) x.locals,Af4 (4,p) (0,0) x.stack++[(4,p)]⟩
 else if op=16 then Aj7 T (want n) arg n x
 else if Age T x.stack (Ahy F ms res op n)=false then none
 else some ⟨x.locals,x.stack.take (x.stack.length-(Ahy F ms res op n).length)++Ahd F ms op n⟩
theorem Wd (l:List (Int × Int)) (q:Nat) (t1 t2:Int):An (l.set q (t1,t2))=((An l).set (q*2) (.int .i64 t1)).set (q*2+1) (.int .i64 t2):=by
 induction l generalizing q with
 | nil=>simp[An]
 | cons x r ih =>
  have e:∀ (y:Int × Int) (s:List (Int × Int)),An (y::s)=.int .i64 y.1 :: .int .i64 y.2::An s:=fun y s=>by simp[An]
  cases q with
  | zero=>rw[List.set_cons_zero,e,e];rfl
  | succ j=>rw[List.set_cons_succ,e,e,ih,show (j+1)*2=j*2+1+1 by omega];rfl
theorem Ia {w:World}{b:Nat}{a:Option Addr}{n c:Nat}{l:List (Int × Int)} (h:TysAt w b (.slice a n c) l) {q:Nat} (hq:q<l.length) (t1 t2:Int) :
  ∃ g,a=some ⟨g,0,none⟩∧g<w.heap.size∧b≤g∧w.cell? ⟨g,q*2,none⟩=some (.int .i64 l[q].1)∧w.cell? ⟨g,q*2+1,none⟩=some (.int .i64 l[q].2)∧w.frozen? ⟨g,q*2,none⟩=false∧w.frozen? ⟨g,q*2+1,none⟩=false ∧
   TysAt ((w.setCell ⟨g,q*2,none⟩ (.int .i64 t1)).setCell ⟨g,q*2+1,none⟩ (.int .i64 t2)) b (.slice a n c) (l.set q (t1,t2)):=by
 obtain⟨g',o',ha',_,hat⟩:=(TyR.of_tys h).at (by omega);obtain⟨hl,⟨hv,hn⟩|⟨g,cap,cur,hv,hb,hg,hlen,hm,hsz,htk⟩⟩:=h
 ·omega
 ·simp only[Value.slice.injEq]at hv;obtain⟨rfl,rfl,rfl⟩:=hv;simp only[Option.some.injEq,Addr.mk.injEq]at ha';obtain⟨rfl,rfl,-⟩:=ha';obtain⟨c0,c1⟩:=hat q hq;simp only[Nat.zero_add]at c0 c1;refine⟨g,rfl,lt_of_block hg,hb,c0,c1,Ag hg _,Ag hg _,?_⟩;refine⟨by rw[Iv],.inr ⟨g,c,_,by rw[List.length_set],hb,Al (Al hg _) _,by rw[List.length_set];exact hlen,hm,by simpa using hsz,?_⟩⟩;rw[List.length_set,Wd,← htk];simp only[Array.toList_setIfInBounds];rw[List.take_set,List.take_set]
theorem TyR.set_frame {w:World}{v:Value}{l:List (Int × Int)}{z:Nat}{a1 a2:Option Addr}{n1 c1 n2 c2:Nat}{ty:TypeId} (h:TyR w v l) (hz:w.heap[z]?=some (.cells #[.slice a1 n1 c1,.slice a2 n2 c2] ty (0,0))) (s t:Value):TyR ((w.setCell ⟨z,0,none⟩ s).setCell ⟨z,1,none⟩ t) v l:=by
 rcases h with h|⟨g,o,c,cur,hv,hg,h1,h2,h3⟩
 ·exact .inl h
 ·obtain⟨cur',hg'⟩:∃ cur',((w.setCell ⟨z,0,none⟩ s).setCell ⟨z,1,none⟩ t).heap[g]?=some (.cells cur' 31 (0,0)):=by
   by_cases e:g=z
   ·subst e;have e2:=hg.symm.trans hz;simp only[Option.some.injEq,Obj.cells.injEq]at e2;obtain⟨_,rfl,_⟩:=e2;exact⟨_,Al (Al hz s) t⟩
   ·exact⟨cur,((Below.heap_setCell _ _ _ _ (by simpa using e)).trans (Below.heap_setCell _ _ _ _ (by simpa using e))).trans hg⟩
  refine .inr ⟨g,o,c,cur',hv,hg',h1,h2,fun j x hx=>?_⟩;have hne:g≠z:=by
   intro e;subst e;have h4:=h3 j x hx;rw[Ab hz]at h4;have hint:∃ k,x=Value.int .i64 k:=by
    have:=List.mem_of_getElem? hx;simp only[An,List.mem_flatMap,List.mem_cons,List.not_mem_nil,or_false]at this;obtain⟨y,_,rfl | rfl⟩:=this<;>exact⟨_,rfl⟩
   obtain⟨k,rfl⟩:=hint;generalize o+j=i at h4
   match i,h4 with
   | 0,h4=>simp at h4
   | 1,h4=>simp at h4
   | i+2,h4=>simp at h4
  rw[World.cell?_setCell_other _ _ _ _ (by intro e;exact hne (congrArg Addr.block e).symm),World.cell?_setCell_other _ _ _ _ (by intro e;exact hne (congrArg Addr.block e).symm)];exact h3 j x hx
theorem Wb (F:List Rf.Fld) (ms:List Rd.Mth) (op n:Int):(Ahd F ms op n).length≤1:=by
 have hr:∀ res,(Agq res).length≤1:=fun res=>by unfold Agq;split<;>simp
 unfold Ahd
 split
 ·simp
 ·split
  ·simp
  ·split
   ·simp
   ·split
    ·simp
    ·split
     ·exact hr _
     ·simp
def Ags (st:Int) (y:Option Afb):Option Afb:=y.bind fun z=>if (z.stack.length:Int)≤st then some z else none
def Ahk (T:List Int) (mp:Int→Option Afb) (p:Int) (lo:List (Int × Int)):List Rd.Hnd→Int
 | []=>0
 | h::r=>if p<h.frm then Ahk T mp p lo r else if h.til≤p then Ahk T mp p lo r
  else if (mp h.target).isSome=false then 8 else if Afh T ⟨lo,[(3,h.cl)]⟩ (Afs (mp h.target))=false then 9 else Ahk T mp p lo r
def Ah7 (T:List Int) (tk lv want:List (Int × Int)) (arg:Int→Int) (p op n:Int) (x:Afb):Option Afb :=
 if op=2 then (if (x.locals.getD n.toNat (0,0)).1=0 then none else some ⟨x.locals,x.stack++[x.locals.getD n.toNat (0,0)]⟩)
 else if op=3 then (if x.stack.length<1 then none else some ⟨x.locals.set n.toNat (x.stack.getD (x.stack.length-1) (0,0)),x.stack.take (x.stack.length-1)⟩)
 else if op=4 then (if x.stack.length<1 then none else some ⟨x.locals,x.stack.take (x.stack.length-1)⟩)
 else if op=5 then (if x.stack.length<1 then none else some ⟨x.locals,x.stack++x.stack.drop (x.stack.length-1)⟩)
 else if op=6 then (if x.stack.length<2 then none else some ⟨x.locals,x.stack.take (x.stack.length-2)++[x.stack.getD (x.stack.length-1) (0,0),x.stack.getD (x.stack.length-2) (0,0)]⟩)
 else if op=15 then some ⟨Af4 (4,p) (0,0) x.locals,Af4 (4,p) (0,0) x.stack++[(4,p)]⟩
 else if op=16 then Aj7 T want arg n x
 else if Age T x.stack tk=false then none
 else some ⟨x.locals,x.stack.take (x.stack.length-tk.length)++lv⟩
theorem Nr (T:List Int) (F:List Rf.Fld) (ms:List Rd.Mth) (want:Int→List (Int × Int)) (arg:Int→Int) (res:Int × Int) (p op n:Int) (x:Afb) :
  Aiz T F ms want arg res p op n x=Ah7 T (Ahy F ms res op n) (Ahd F ms op n) (want n) arg p op n x:=rfl
structure Afp where
 lo:List (Int × Int)
 st:List (Int × Int)
 br:Bool
def Afc (b:Afp):(Int × Int) × Afp :=
 if b.st.length=0 then ((0,0),⟨b.lo,b.st,true⟩) else (b.st.getD (b.st.length-1) (0,0),⟨b.lo,b.st.take (b.st.length-1),b.br⟩)
def Ajr (T:List Int) (t x:Int × Int) (b:Afp):Afp:=if Tr.fitsB T t.1 t.2 x.1 x.2=true then b else ⟨b.lo,b.st,true⟩
def Agi (T:List Int) (l:List (Int × Int)):Nat→Afp→Afp
 | 0,b=>b
 | i+1,b=>Agi T l i (Ajr T (Afc b).1 (l.getD i (0,0)) (Afc b).2)
def Agk (T:List Int) (l:List (Int × Int)) (b:Afp):Afp:=Agi T l l.length b
def Af0 (hi:Int) (t:Int × Int) (b:Afp):Afp:=if hi≤(b.st.length:Int) then ⟨b.lo,b.st,true⟩ else ⟨b.lo,b.st++[t],b.br⟩
def Agn (hi:Int):List (Int × Int)→Afp→Afp
 | [],b=>b
 | t::r,b=>Agn hi r (Af0 hi t b)
def Aju (hi n:Int) (b:Afp):Afp :=
 if n<0 then ⟨b.lo,b.st,true⟩ else if (b.lo.length:Int)≤n then ⟨b.lo,b.st,true⟩ else if (b.lo.getD n.toNat (0,0)).1=0 then ⟨b.lo,b.st,true⟩ else Af0 hi (b.lo.getD n.toNat (0,0)) b
def Ajp (n:Int) (b:Afp):Afp :=
 if n<0 then ⟨b.lo,(Afc b).2.st,true⟩ else if (b.lo.length:Int)≤n then ⟨b.lo,(Afc b).2.st,true⟩ else ⟨b.lo.set n.toNat (Afc b).1,(Afc b).2.st,(Afc b).2.br⟩
def Ah8 (old fresh:Int × Int) (b:Afp):Afp:=⟨Af4 old fresh b.lo,Af4 old fresh b.st,b.br⟩
def Akh (hi:Int) (b:Afp):Afp:=Af0 hi (Afc (Afc b).2).1 (Af0 hi (Afc b).1 (Afc (Afc b).2).2)
def Akj (hi:Int) (b:Afp):Afp:=Af0 hi (Afc b).1 (Af0 hi (Afc b).1 (Afc b).2)
def Ai6 (isNew:Int→Bool) (c:Int) (t:Int × Int) (b:Afp):Afp :=
 if t.1≠4 then ⟨b.lo,b.st,true⟩ else if isNew t.2=false then ⟨b.lo,b.st,true⟩ else Ah8 t (3,c) b
def Aj4 (T:List Int) (want:List (Int × Int)) (isNew:Int→Bool) (c:Int) (b:Afp):Afp :=
 Ai6 isNew c (Afc (Agk T want b)).1 (Afc (Agk T want b)).2
def Af9 (b:Afp):Option Afb:=if b.br=true then none else some ⟨b.lo,b.st⟩
def Aj0 (T:List Int) (hi:Int) (tk lv want:List (Int × Int)) (isNew:Int→Bool) (p op n:Int) (b:Afp):Afp :=
 if op=2 then Aju hi n b else if op=3 then Ajp n b else if op=4 then (Afc b).2 else if op=5 then Akj hi b else if op=6 then Akh hi b
 else if op=15 then Af0 hi (4,p) (Ah8 (4,p) (0,0) b) else if op=16 then Aj4 T want isNew n b else Agn hi lv (Agk T tk b)
def Aih (T:List Int) (hi:Int) (tk lv want:List (Int × Int)) (isNew:Int→Bool) (p op n:Int) (x:Afb):Option Afb:=Af9 (Aj0 T hi tk lv want isNew p op n ⟨x.locals,x.stack,false⟩)
def Aft (T:List Int):List (Int × Int)→List (Int × Int)→Bool
 | _,[]=>true
 | [],_::_=>false
 | s::ss,t::ts=>Tr.fitsB T s.1 s.2 t.1 t.2&&Aft T ss ts
theorem Dy {T:List Int} (hT:Tr.Ok T):∀ (a b:List (Int × Int)),(∀ t∈a,Tr.Arg T t.1 t.2)→(∀ t∈b,Tr.Arg T t.1 t.2)→Aio T a b=Aft T a b
 | _,[],_,_=>by simp[Aio,Aft]
 | [],_::_,_,_=>by simp[Aio,Aft]
 | s::ss,t::ts,ha,hb=>by
  rw[Aio,Aft,Tr.rfits_eq hT (ha s (by simp)) (hb t (by simp)),Dy hT ss ts (fun x hx=>ha x (by simp[hx])) (fun x hx=>hb x (by simp[hx]))]
theorem Pv (T:List Int) (t x:Int × Int):∀ (a b:List (Int × Int)),a.length=b.length→Aft T (a++[t]) (b++[x])=(Aft T a b&&Tr.fitsB T t.1 t.2 x.1 x.2)
 | [],[],_=>by simp[Aft]
 | [],_::_,h=>by simp at h
 | _::_,[],h=>by simp at h
 | s::ss,y::ys,h=>by
  simp only[List.cons_append,Aft];rw[Pv T t x ss ys (by simpa using h),Bool.and_assoc]
theorem Ux (b:Afp):(Afc b).2.lo=b.lo:=by unfold Afc;split<;>rfl
theorem Qx (T:List Int) (t x:Int × Int) (b:Afp):(Ajr T t x b).lo=b.lo∧(Ajr T t x b).st=b.st∧(Ajr T t x b).br=(b.br || !Tr.fitsB T t.1 t.2 x.1 x.2):=by
 unfold Ajr;cases Tr.fitsB T t.1 t.2 x.1 x.2<;>simp
theorem Uh {α:Type} (l:List α) (d:α) (h:l.length≠0):l=l.take (l.length-1)++[l.getD (l.length-1) d]:=by
 have hk:l.length-1<l.length:=by omega
 have:=List.take_succ_eq_append_getElem hk;rw[show l.length-1+1=l.length by omega,List.take_length]at this;rw[List.getD_eq_getElem?_getD,List.getElem?_eq_getElem hk];exact this
theorem Om (T:List Int) (l:List (Int × Int)):∀ (k:Nat) (b:Afp),b.br=true→(Agi T l k b).br=true
 | 0,b,h=>h
 | k+1,b,h=>by
  unfold Agi;refine Om T l k _ ?_;rw[(Qx _ _ _ _).2.2];have:(Afc b).2.br=true:=by unfold Afc;split<;>simp[h]
  rw[this];rfl
theorem Kw (T:List Int) (l:List (Int × Int)):∀ (k:Nat),k≤l.length→∀ (b:Afp),(Agi T l k b).lo=b.lo ∧
  (k≤b.st.length→(Agi T l k b).st=b.st.take (b.st.length-k)∧(Agi T l k b).br=(b.br || !Aft T (b.st.drop (b.st.length-k)) (l.take k))) ∧
  (b.st.length<k→(Agi T l k b).br=true)
 | 0,_,b=>by
  refine⟨rfl,fun _=>⟨?_,?_⟩,fun h=>by omega⟩
  ·simp[Agi]
  ·simp[Agi,Aft]
 | k+1,hk,b=>by
  have hkl:k<l.length:=by omega
  unfold Agi;obtain⟨i1,i2,i3⟩:=Kw T l k (by omega) (Ajr T (Afc b).1 (l.getD k (0,0)) (Afc b).2);obtain⟨f1,f2,f3⟩:=Qx T (Afc b).1 (l.getD k (0,0)) (Afc b).2;rw[f1,Ux]at i1;rw[f2,f3]at i2;rw[f2]at i3;by_cases h0:b.st.length=0
  ·refine⟨i1,fun h=>by omega,fun _=>?_⟩;have e:Afc b=((0,0),⟨b.lo,b.st,true⟩):=by unfold Afc;rw[if_pos h0]
   refine Om _ _ _ _ ?_;rw[f3,e];rfl
  ·have e:Afc b=(b.st.getD (b.st.length-1) (0,0),⟨b.lo,b.st.take (b.st.length-1),b.br⟩):=by unfold Afc;rw[if_neg h0]
   rw[e]at i1 i2 i3 ⊢;simp only at i1 i2 i3 ⊢;have hlen:(b.st.take (b.st.length-1)).length=b.st.length-1:=by simp
   rw[hlen]at i2 i3;refine⟨i1,fun h=>?_,fun h=>i3 (by omega)⟩;obtain⟨j1,j2⟩:=i2 (by omega);refine⟨?_,?_⟩
   ·rw[j1,List.take_take]
    congr 1;omega
   ·rw[j2];have hs:=Uh b.st (0,0) h0;have hd:b.st.drop (b.st.length-(k+1))=(b.st.take (b.st.length-1)).drop (b.st.length-1-k)++[b.st.getD (b.st.length-1) (0,0)]:=by
     conv=>lhs;rw[hs]
     rw[List.length_append,hlen,List.drop_append_of_le_length (by rw[hlen];simp)]
     congr 2
     simp only[List.length_singleton];omega
    have hl:l.take (k+1)=l.take k++[l.getD k (0,0)]:=by
     rw[List.take_succ_eq_append_getElem hkl,List.getD_eq_getElem?_getD,List.getElem?_eq_getElem hkl];rfl
    rw[hd,hl,Pv _ _ _ _ _ (by simp;omega)];cases b.br<;>cases Aft T (List.drop (b.st.length-1-k) (List.take (b.st.length-1) b.st)) (List.take k l)<;>simp
theorem Jt {T:List Int} (hT:Tr.Ok T) (l:List (Int × Int)) (b:Afp) (hb:∀ t∈b.st,Tr.Arg T t.1 t.2) (hl:∀ t∈l,Tr.Arg T t.1 t.2) :
  (Agk T l b).lo=b.lo∧(Age T b.st l=true→(Agk T l b).st=b.st.take (b.st.length-l.length)∧(Agk T l b).br=b.br)∧(Age T b.st l=false→(Agk T l b).br=true):=by
 obtain⟨h1,h2,h3⟩:=Kw T l l.length (Nat.le_refl _) b;unfold Agk Age;refine⟨h1,fun h=>?_,fun h=>?_⟩
 ·by_cases hn:b.st.length<l.length
  ·rw[if_pos hn]at h;cases h
  ·rw[if_neg hn,Dy hT _ _ (fun t ht=>hb t (List.mem_of_mem_drop ht)) hl]at h;obtain⟨g1,g2⟩:=h2 (by omega);refine⟨g1,?_⟩;rw[g2,List.take_length,h];simp
 ·by_cases hn:b.st.length<l.length
  ·exact h3 hn
  ·rw[if_neg hn,Dy hT _ _ (fun t ht=>hb t (List.mem_of_mem_drop ht)) hl]at h;obtain⟨g1,g2⟩:=h2 (by omega);rw[g2,List.take_length,h];simp
theorem Ej {hi:Int}{t:Int × Int}{b:Afp} (h:b.br=true):(Af0 hi t b).br=true:=by unfold Af0;split<;>simp[h]
theorem Lh {hi:Int}:∀ {l:List (Int × Int)}{b:Afp},b.br=true→(Agn hi l b).br=true
 | [],_,h=>h
 | _::r,_,h=>Lh (l:=r) (Ej h)
theorem Ug {b:Afp} (h:b.br=true):(Afc b).2.br=true:=by unfold Afc;split<;>simp[h]
theorem H8 {b:Afp} (h:b.br=true):Af9 b=none:=by unfold Af9;rw[if_pos h]
theorem Ady {b:Afp} (h:b.br=false):Af9 b=some ⟨b.lo,b.st⟩:=by unfold Af9;rw[h];rfl
theorem Bt (a b:Int × Int) (l:List (Int × Int)):(Af4 a b l).length=l.length:=by simp[Af4]
theorem Xb {T:List Int} (hT:Tr.Ok T) (hi:Int) (tk lv want:List (Int × Int)) (isNew:Int→Bool) (arg:Int→Int) (p op n:Int) (x:Afb)
  (hs:∀ t∈x.stack,Tr.Arg T t.1 t.2) (htk:∀ t∈tk,Tr.Arg T t.1 t.2) (hwant:∀ t∈want,Tr.Arg T t.1 t.2) (hlv:lv.length≤1) (hhi:(x.stack.length:Int)≤hi)
  (hn:op=2∨op=3→0≤n∧n<(x.locals.length:Int)) (hnew:op=16→∀ t∈x.stack,t.1=4→(isNew t.2=true↔arg t.2=n)) :
  Aih T hi tk lv want isNew p op n x=Ags hi (Ah7 T tk lv want arg p op n x):=by
 unfold Aih Aj0 Ah7;by_cases h2:op=2
 ·rw[if_pos h2,if_pos h2];obtain⟨a1,a2⟩:=hn (.inl h2);unfold Aju;rw[if_neg (by omega),if_neg (by simpa using a2)];by_cases h0:(x.locals.getD n.toNat (0,0)).1=0
  ·rw[if_pos h0,if_pos h0];rfl
  ·rw[if_neg h0,if_neg h0];unfold Af0 Ags;by_cases hh:hi≤(x.stack.length:Int)
   ·rw[if_pos hh];simp[Af9];omega
   ·rw[if_neg hh];simp[Af9];omega
 rw[if_neg h2,if_neg h2];by_cases h3:op=3
 ·rw[if_pos h3,if_pos h3];obtain⟨a1,a2⟩:=hn (.inr h3);unfold Ajp;rw[if_neg (by omega),if_neg (by simpa using a2)];unfold Afc;by_cases hz:x.stack.length=0
  ·rw[if_pos (show x.stack.length<1 by omega)];simp[hz,Af9,Ags]
  ·rw[if_neg (show ¬ x.stack.length<1 by omega)];simp only[hz,if_false];simp[Af9,Ags];omega
 rw[if_neg h3,if_neg h3];by_cases h4:op=4
 ·rw[if_pos h4,if_pos h4];unfold Afc;by_cases hz:x.stack.length=0
  ·rw[if_pos (show x.stack.length<1 by omega)];simp[hz,Af9,Ags]
  ·rw[if_neg (show ¬ x.stack.length<1 by omega)];simp only[hz,if_false];simp[Af9,Ags];omega
 rw[if_neg h4,if_neg h4];by_cases h5:op=5
 ·rw[if_pos h5,if_pos h5];unfold Akj Afc;by_cases hz:x.stack.length=0
  ·rw[if_pos (show x.stack.length<1 by omega)];rw[H8 (Ej (Ej (by simp[hz])))];rfl
  ·rw[if_neg (show ¬ x.stack.length<1 by omega)];simp only[hz,if_false];have hsn:=Uh x.stack (0,0) hz;have hdr:x.stack.drop (x.stack.length-1)=[x.stack.getD (x.stack.length-1) (0,0)]:=by
    conv=>lhs;rw[hsn]
    rw[List.drop_append_of_le_length (by simp)]
    simp
   rw[hdr];have e1:Af0 hi (x.stack.getD (x.stack.length-1) (0,0)) ⟨x.locals,x.stack.take (x.stack.length-1),false⟩=⟨x.locals,x.stack,false⟩:=by
    unfold Af0;rw[if_neg (by simp;omega)];simp only[← hsn]
   rw[e1];unfold Af0 Ags;by_cases hh:hi≤(x.stack.length:Int)
   ·rw[if_pos hh];simp[Af9];omega
   ·rw[if_neg hh];simp[Af9];omega
 rw[if_neg h5,if_neg h5];by_cases h6:op=6
 ·rw[if_pos h6,if_pos h6];unfold Akh;by_cases hz:x.stack.length=0
  ·rw[if_pos (show x.stack.length<2 by omega)];have:(Afc ⟨x.locals,x.stack,false⟩).2.br=true:=by unfold Afc;simp[hz]
   rw[H8 (Ej (Ej (Ug this)))];rfl
  ·have e1:Afc ⟨x.locals,x.stack,false⟩=(x.stack.getD (x.stack.length-1) (0,0),⟨x.locals,x.stack.take (x.stack.length-1),false⟩):=by unfold Afc;simp only[hz,if_false]
   rw[e1];simp only;by_cases hz1:x.stack.length<2
   ·rw[if_pos hz1];have:(Afc ⟨x.locals,x.stack.take (x.stack.length-1),false⟩).2.br=true:=by unfold Afc;rw[if_pos (by simp;omega)]
    rw[H8 (Ej (Ej this))];rfl
   ·rw[if_neg hz1];have e2:Afc ⟨x.locals,x.stack.take (x.stack.length-1),false⟩=(x.stack.getD (x.stack.length-2) (0,0),⟨x.locals,x.stack.take (x.stack.length-2),false⟩):=by
     unfold Afc;rw[if_neg (by simp;omega)];simp only[List.length_take,List.take_take,List.getD_eq_getElem?_getD,List.getElem?_take];rw[show min (x.stack.length-1) x.stack.length-1=x.stack.length-2 by omega,if_pos (by omega),show min (x.stack.length-2) (x.stack.length-1)=x.stack.length-2 by omega]
    rw[e2];simp only;unfold Af0;have l1:¬ hi≤((x.stack.take (x.stack.length-2)).length:Int):=by simp;omega
    rw[if_neg l1];have l2:¬ hi≤((x.stack.take (x.stack.length-2)++[x.stack.getD (x.stack.length-1) (0,0)]).length:Int):=by simp;omega
    simp only[l2,if_false];simp[Af9,Ags];omega
 rw[if_neg h6,if_neg h6];by_cases h15:op=15
 ·rw[if_pos h15,if_pos h15];unfold Ah8 Af0 Ags;simp only[Bt];by_cases hh:hi≤(x.stack.length:Int)
  ·rw[if_pos hh];simp[Af9,Bt];omega
  ·rw[if_neg hh];simp[Af9,Bt];omega
 rw[if_neg h15,if_neg h15];by_cases h16:op=16
 ·rw[if_pos h16,if_pos h16];obtain⟨g1,g2,g3⟩:=Jt hT want ⟨x.locals,x.stack,false⟩ hs hwant;unfold Aj4 Aj7;simp only at g1 g2 g3;cases htop:Age T x.stack want with
  | false =>
   have:∀ t (b:Afp),b.br=true→Af9 (Ai6 isNew n t b)=none:=by
    intro t b hb;unfold Ai6 Ah8
    split
    ·rfl
    ·split
     ·rfl
     ·exact H8 hb
   rw[this _ _ (Ug (g3 htop))];simp[Ags]
  | true =>
   obtain⟨k1,k2⟩:=g2 htop;have hlw:want.length≤x.stack.length:=by
    unfold Age at htop;by_cases h:x.stack.length<want.length
    ·rw[if_pos h]at htop;cases htop
    ·omega
   rw[if_neg (by simp)];generalize hb:Agk T want ⟨x.locals,x.stack,false⟩=b at *;obtain⟨blo,bst,bbr⟩:=b;simp only at g1 k1 k2;subst g1 k1 k2;by_cases hz:x.stack.length<want.length+1
   ·rw[if_pos hz];have e:Afc ⟨x.locals,x.stack.take (x.stack.length-want.length),false⟩=((0,0),⟨x.locals,x.stack.take (x.stack.length-want.length),true⟩):=by
     unfold Afc;rw[if_pos (by simp;omega)]
    rw[e];simp[Ai6,Af9,Ags]
   ·rw[if_neg hz];have hix:x.stack.length-want.length-1<x.stack.length:=by omega
    have e:Afc ⟨x.locals,x.stack.take (x.stack.length-want.length),false⟩=(x.stack.getD (x.stack.length-want.length-1) (0,0),⟨x.locals,x.stack.take (x.stack.length-want.length-1),false⟩):=by
     unfold Afc;rw[if_neg (by simp;omega)];simp only[List.length_take,List.take_take,List.getD_eq_getElem?_getD,List.getElem?_take];rw[show min (x.stack.length-want.length) x.stack.length-1=x.stack.length-want.length-1 by omega,if_pos (by omega),show min (x.stack.length-want.length-1) (x.stack.length-want.length)=x.stack.length-want.length-1 by omega]
    rw[e];simp only;have hm:x.stack.getD (x.stack.length-want.length-1) (0,0)∈x.stack:=by
     rw[List.getD_eq_getElem?_getD,List.getElem?_eq_getElem hix];exact List.getElem_mem hix
    generalize x.stack.getD (x.stack.length-want.length-1) (0,0)=t at *;unfold Ai6;by_cases ht:t.1=4
    ·rw[if_neg (show ¬ t.1≠4 from fun g=>g ht),if_neg (show ¬ t.1≠4 from fun g=>g ht)];have hiff:=hnew h16 t hm ht;by_cases ha:arg t.2=n
     ·rw[hiff.2 ha,if_neg (by simp),if_neg (show ¬ arg t.2≠n from fun g=>g ha)];unfold Ah8 Ags;simp[Af9,Bt];omega
     ·have:isNew t.2=false:=by
       cases h:isNew t.2
       ·rfl
       ·exact absurd (hiff.1 h) ha
      rw[if_pos this,if_pos ha];rfl
    ·rw[if_pos ht,if_pos ht];rfl
 rw[if_neg h16,if_neg h16];obtain⟨g1,g2,g3⟩:=Jt hT tk ⟨x.locals,x.stack,false⟩ hs htk;simp only at g1 g2 g3;cases htop:Age T x.stack tk with
 | false=>rw[if_pos rfl,H8 (Lh (g3 htop))];rfl
 | true =>
  obtain⟨k1,k2⟩:=g2 htop;rw[if_neg (by simp)];generalize hb:Agk T tk ⟨x.locals,x.stack,false⟩=b at *;obtain⟨blo,bst,bbr⟩:=b;simp only at g1 k1 k2;subst g1 k1 k2
  match lv,hlv with
  | [],_ =>
   simp[Agn,Af9,Ags];omega
  | [t],_ =>
   simp only[Agn,Af0];by_cases hh:hi≤((x.stack.take (x.stack.length-tk.length)).length:Int)
   ·rw[if_pos hh];simp at hh;simp[Af9,Ags];omega
   ·rw[if_neg hh];simp at hh;simp[Af9,Ags];omega
def Afr (n:Int):List (List (Int × Int))→Int→Int→Int × Int
 | [],_,_=>(-1,0)
 | own::r,c,f=>if f≤n∧n-f<(own.length:Int) then (c,n-f) else Afr n r (c+1) (f+(own.length:Int))
def Aig (fs:List (List (Int × Int))) (c:Int):List (Int × Int):=if c<0 then [] else fs.getD c.toNat []
def Ahp (fs:List (List (Int × Int))) (n:Int):Int × (Int × Int) :=
 if (Afr n fs 0 0).2<0 then (-1,(0,0)) else if ((Aig fs (Afr n fs 0 0).1).length:Int)≤(Afr n fs 0 0).2 then (-1,(0,0))
 else ((Afr n fs 0 0).1,(Aig fs (Afr n fs 0 0).1).getD (Afr n fs 0 0).2.toNat (0,0))
def Af3 (T:List Int) (fs:List (List (Int × Int))) (c:Int):Nat→List (Int × Int)
 | 0=>[]
 | d+1=>Af3 T fs c d++(if Tr.within T c (d:Int)=true then fs.getD d [] else [])
def Afm (T:List Int) (fs:List (List (Int × Int))) (c:Int):List (Int × Int):=Af3 T fs c fs.length
theorem Wx {T:List Int} (hT:Tr.Ok T) {a b:Int} (ha:0≤a) (hl:a<(T.length:Int)) (hb:0≤b):Tr.within T a b=Tr.rbel T a b:=by
 refine Bool.eq_iff_iff.2 ?_;rw[Tr.rbel_iff hT ha hl hb];unfold Tr.within Tr.At;simp only[Bool.or_eq_true,beq_iff_eq];exact⟨fun h=>h.imp Eq.symm id,fun h=>h.imp Eq.symm id⟩
theorem Yk {T:List Int} (hT:Tr.Ok T) {a b:Int} (ha:0≤a) (hl:a<(T.length:Int)) (hb:a<b):Tr.within T a b=false:=by
 unfold Tr.within;cases h:Tr.below T a b
 ·simp;omega
 ·have:=Tr.below_lt hT (by omega) hl h;omega
theorem Kq {T:List Int} (hT:Tr.Ok T) (cs:List Rd.Cls) {c:Int} (h0:0≤c) (hl:c<(T.length:Int)):∀ d:Nat,Af3 T (cs.map Rd.Cls.fields) c d=Rf.allTo T cs c d
 | 0=>rfl
 | d+1=>by
  rw[Af3,Rf.allTo,Kq hT cs h0 hl d,Wx hT h0 hl (by omega)]
  congr 2
  rw[List.getD_eq_getElem?_getD,List.getD_eq_getElem?_getD,List.getElem?_map];cases cs[d]? <;> rfl
theorem Lg {T:List Int} (hT:Tr.Ok T) (fs:List (List (Int × Int))) {c:Nat} (hl:(c:Int)<(T.length:Int)):∀ d:Nat,Af3 T fs (c:Int) (c+1+d)=Af3 T fs (c:Int) (c+1)
 | 0=>rfl
 | d+1=>by
  rw[← Nat.add_assoc,Af3,Lg hT fs hl d,Yk hT (by omega) hl (by omega)]
  simp
theorem Tf {T:List Int} (hT:Tr.Ok T) (cs:List Rd.Cls) (hcs:cs.length=T.length) {c:Nat} (hl:c<T.length):Afm T (cs.map Rd.Cls.fields) (c:Int)=Rf.all T cs c:=by
 unfold Afm Rf.all;rw[← Kq hT cs (by omega) (by omega),List.length_map];have:=Lg hT (cs.map Rd.Cls.fields) (c:=c) (by omega) (cs.length-(c+1));rw[show c+1+(cs.length-(c+1))=cs.length by omega]at this;exact this
theorem L9 (c base:Int) (own:List (Int × Int)):∀ (k i:Nat),i<k→(Rf.ownTo c base own k).getD i ⟨0,0,(0,0)⟩=⟨c,base+(i:Int),own.getD i (0,0)⟩
 | 0,_,h=>by omega
 | k+1,i,h=>by
  rw[Rf.ownTo];by_cases hi:i<k
  ·rw[List.getD_eq_getElem?_getD,List.getElem?_append_left (by rw[Gc];exact hi),← List.getD_eq_getElem?_getD];exact L9 c base own k i hi
  ·have:i=k:=by omega
   subst this;rw[List.getD_eq_getElem?_getD,List.getElem?_append_right (by rw[Gc];omega),Gc]
   simp
def Rf.fieldsAt (T:List Int) (cs:List Rd.Cls):Nat→Nat→List Rf.Fld
 | _,0=>[]
 | c,j+1=>Rf.ownOf T cs c++Rf.fieldsAt T cs (c+1) j
theorem Je (T:List Int) (cs:List Rd.Cls):∀ (j c:Nat),Rf.fieldsAt T cs c (j+1)=Rf.fieldsAt T cs c j++Rf.ownOf T cs (c+j)
 | 0,c=>by simp[Rf.fieldsAt]
 | j+1,c=>by
  rw[Rf.fieldsAt,Je T cs j (c+1),Rf.fieldsAt,List.append_assoc,show c+1+j=c+(j+1) by omega]
theorem Ki (T:List Int) (cs:List Rd.Cls):∀ j:Nat,Rf.fieldsTo T cs j=Rf.fieldsAt T cs 7 j
 | 0=>rfl
 | j+1=>by rw[Rf.fieldsTo,Ki T cs j,Je]
theorem Ry (T:List Int) (cs:List Rd.Cls) (n:Nat):∀ (j c f:Nat),c+j=cs.length→f≤n→n-f<(Rf.fieldsAt T cs c j).length →
  ∃ q:Nat,c≤q∧q<cs.length∧∃ i:Nat,i<(cs.getD q ⟨0,[]⟩).fields.length∧Afr (n:Int) ((cs.drop c).map Rd.Cls.fields) (c:Int) (f:Int)=((q:Int),(i:Int)) ∧
   ((Rf.fieldsAt T cs c j).getD (n-f) ⟨0,0,(0,0)⟩).owner=(q:Int)∧((Rf.fieldsAt T cs c j).getD (n-f) ⟨0,0,(0,0)⟩).t=(cs.getD q ⟨0,[]⟩).fields.getD i (0,0)
 | 0,c,f,hc,hf,h=>by simp[Rf.fieldsAt]at h
 | j+1,c,f,hc,hf,h=>by
  have hcl:c<cs.length:=by omega
  rw[List.drop_eq_getElem_cons hcl,List.map_cons,Afr];have hg:cs.getD c ⟨0,[]⟩=cs[c]:=by rw[List.getD_eq_getElem?_getD,List.getElem?_eq_getElem hcl];rfl
  have hol:(Rf.ownOf T cs c).length=cs[c].fields.length:=by rw[Rf.ownOf,Gc,hg]
  rw[Rf.fieldsAt]at h ⊢;by_cases hin:n-f<cs[c].fields.length
  ·refine⟨c,Nat.le_refl _,hcl,n-f,by rw[hg];exact hin,?_,?_,?_⟩
   ·rw[if_pos (by omega)]
    congr 1;omega
   ·rw[List.getD_eq_getElem?_getD,List.getElem?_append_left (by rw[hol];exact hin),← List.getD_eq_getElem?_getD,Rf.ownOf,L9 _ _ _ _ _ (by rw[hg];exact hin)]
   ·rw[List.getD_eq_getElem?_getD,List.getElem?_append_left (by rw[hol];exact hin),← List.getD_eq_getElem?_getD,Rf.ownOf,L9 _ _ _ _ _ (by rw[hg];exact hin)]
  ·rw[if_neg (by omega)];obtain⟨q,h1,h2,i,h3,h4,h5,h6⟩:=Ry T cs n j (c+1) (f+cs[c].fields.length) (by omega) (by omega) (by rw[List.length_append,hol]at h;omega);refine⟨q,by omega,h2,i,h3,?_,?_,?_⟩
   ·rw[← h4];push_cast;rfl
   ·rw[List.getD_eq_getElem?_getD,List.getElem?_append_right (by rw[hol];omega),← List.getD_eq_getElem?_getD,hol,← h5];congr 2;omega
   ·rw[List.getD_eq_getElem?_getD,List.getElem?_append_right (by rw[hol];omega),← List.getD_eq_getElem?_getD,hol,← h6];congr 2;omega
theorem Pn (n:Int) (r:List (List (Int × Int))) (f:Int):∀ (k:Nat) (c:Int),Afr n (List.replicate k []++r) c f=Afr n r (c+(k:Int)) f
 | 0,c=>by simp
 | k+1,c=>by
  rw[List.replicate_succ,List.cons_append,Afr,if_neg (by simp)];simp only[List.length_nil];rw[show f+((0:Nat):Int)=f by omega,Pn n r f k (c+1)]
  congr 1;omega
theorem Lv (T:List Int) (cs:List Rd.Cls) (h7:7≤cs.length) (hg:∀ i,i<7→(cs.getD i ⟨0,[]⟩).fields=[]) (n:Nat) (hn:n<(Rf.fieldsTo T cs (cs.length-7)).length) :
  Ahp (cs.map Rd.Cls.fields) (n:Int)=(((Rf.fieldsTo T cs (cs.length-7)).getD n ⟨0,0,(0,0)⟩).owner,((Rf.fieldsTo T cs (cs.length-7)).getD n ⟨0,0,(0,0)⟩).t):=by
 rw[Ki]at hn ⊢;obtain⟨q,h1,h2,i,h3,h4,h5,h6⟩:=Ry T cs n (cs.length-7) 7 0 (by omega) (by omega) (by simpa using hn);have e:cs.map Rd.Cls.fields=List.replicate 7 []++(cs.drop 7).map Rd.Cls.fields:=by
  conv=>lhs;rw[← List.take_append_drop 7 cs,List.map_append]
  congr 1
  apply List.ext_getElem
  ·simp;omega
  ·intro i hi hi';have hi2:i<7:=by simpa using hi'
   have:=hg i hi2;rw[List.getD_eq_getElem?_getD,List.getElem?_eq_getElem (by omega)]at this;rw[List.getElem_map,List.getElem_take,List.getElem_replicate]
   simpa using this
 have ho:Afr (n:Int) (cs.map Rd.Cls.fields) 0 0=((q:Int),(i:Int)):=by
  rw[e,Pn];exact h4
 have hown:Aig (cs.map Rd.Cls.fields) (q:Int)=(cs.getD q ⟨0,[]⟩).fields:=by
  unfold Aig;rw[if_neg (by omega),List.getD_eq_getElem?_getD,List.getElem?_map,List.getD_eq_getElem?_getD,Int.toNat_natCast];cases cs[q]? <;> rfl
 unfold Ahp;rw[ho];simp only;rw[if_neg (by omega),hown,if_neg (by omega),Int.toNat_natCast];simp only[Nat.sub_zero]at h5 h6;rw[h5,h6]
end Go.Proofs.YtpcgnjolfahacaaGreat
