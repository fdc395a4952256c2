/- a part of the proof in YtcefiamkoincoaaGreatFoundProof -/
import Derived.Deep.RegionHeld
import Derived.Deep.RegionHeld3
import Derived.Test.YtcefiamkoincoaaGreatPk12
set_option maxRecDepth 100000
set_option maxHeartbeats 40000000
set_option linter.unusedVariables false
set_option linter.unusedSimpArgs false
namespace Go.Proofs.YtcefiamkoincoaaGreat
open Go.RowKit
theorem TreeIn.set {w:World}{g b i:Nat}{l:List Int} (h:TreeIn w g l) (hb:b ≠ g) (u:Value):TreeIn (w.setCell ⟨b,i,none⟩ u) g l :=
 ⟨by simpa [World.setCell] using h.1,fun j hj=>by rw [World.cell?_setCell_other _ _ _ _ (by intro e;exact hb (congrArg Addr.block e))];exact h.2 j hj⟩
theorem Xc (fa1 fa2:Option Addr) (fc1 fc2:Nat) (lcs:List (Rd.Cls × Value)) (lms:List (Rd.Mth × MthV)) (bm:Nat) (w:World)
  (hm6:lms.length≤6) (hc6:lcs.length≤6) (hcf:∀ p∈lcs,p.1.fields.length≤1000) (hcs:ClssIn w bm (.slice fa1 lcs.length fc1) lcs) (hms:MthsIn w bm (.slice fa2 lms.length fc2) lms) (hbd:∀ p∈lms,Pf.MBd p.1) :
  Calls Tryz.prog 40 #[.agg #[.slice fa1 lcs.length fc1,.slice fa2 lms.length fc2]] w fun e w' =>
   e=.returned (.agg #[.int .i64 (Pf.find ⟨lcs.map Prod.fst,lms.map Prod.fst⟩).1,.int .i64 (Pf.find ⟨lcs.map Prod.fst,lms.map Prod.fst⟩).2.1,.int .i64 (Pf.find ⟨lcs.map Prod.fst,lms.map Prod.fst⟩).2.2])∧Below w.heap.size w w':=by
 have HCS:∀ w',Below w.heap.size w w'→ClssIn w' bm (.slice fa1 lcs.length fc1) lcs:=fun w' h=>hcs.kp (Kp.of_below (e:=none) h) (by decide) (by decide);have HMS:∀ w',Below w.heap.size w w'→MthsIn w' bm (.slice fa2 lms.length fc2) lms:=fun w' h=>hms.kp (Kp.of_below (e:=none) h) (by decide) (by decide) (by decide) (by decide) (by decide);have hIC:=fun w' (h:Below w.heap.size w w')=>N2 fa1 fa2 lcs.length fc1 lms.length fc2 bm lcs w' hc6 hcf (HCS w' h);have hTO:=fun w' (h:Below w.heap.size w w')=>Fx fa1 fa2 lcs.length fc1 lms.length fc2 bm lcs w' hc6 (HCS w' h);have hTl:(Tr.tree (lcs.map Prod.fst)).length≤1000:=by rw [Ca];simp;omega
 have hIH:=fun ya yn yc tg cap w' (h:Below w.heap.size w w') hTr=>Qs (ya:=ya) (yn:=yn) (yc:=yc) fa1 fa2 lcs.length fc1 fc2 lms (Tr.tree (lcs.map Prod.fst)) tg cap bm w' hTl hTr hm6 (HMS w' h) (fun p hp=>by have:=(hbd p hp).ps;omega);have hIB:=fun ya yn yc tg cap w' (h:Below w.heap.size w w') hTr=>Pj (ya:=ya) (yn:=yn) (yc:=yc) fa1 fa2 fc1 fc2 lcs lms (Tr.tree (lcs.map Prod.fst)) tg cap bm w' hTl hTr hm6 hc6 hcf (HCS w' h) (HMS w' h) hbd;have how:(lms.map fun p=>p.1.cl)=(lms.map Prod.fst).map Rd.Mth.cl:=by simp
 rw [how] at hIB;generalize hR:Pf.find ⟨lcs.map Prod.fst,lms.map Prod.fst⟩=R;unfold Pf.find Pf.rest at hR;simp only at hR;generalize Tr.tree (lcs.map Prod.fst)=T at *;generalize Tr.inCl T 0 (lcs.map Prod.fst)=ic at *;generalize Pf.bodies T (Cd.fieldSum (lcs.map Prod.fst):Int) ((lms.map Prod.fst).map Rd.Mth.cl) 0 (lms.map Prod.fst)=bo at *;generalize hhd:Pf.heads T (lms.map Prod.fst) 0 (lms.map Prod.fst)=hd at *;obtain ⟨i1,i2⟩:=ic;obtain ⟨b1,b2,b3⟩:=bo;obtain ⟨R1,R2,R3⟩:=R;simp only at hIC hIB hR;have HIC:=Ac hIC;have HTO:=Ac hTO;have HIH:=Ac hIH;have HIB:=Ac hIB;clear hIC hTO hIH hIB HCS HMS hcs hms how hhd hbd;have hB0:=Aj w (.cells #[.slice fa1 lcs.length fc1,.slice fa2 lms.length fc2] 63) (.cells #[.int .i64 0,.int .i64 0,.int .i64 0] 65);have C0:=Ak w (.cells #[.slice fa1 lcs.length fc1,.slice fa2 lms.length fc2] 63) (.cells #[.int .i64 0,.int .i64 0,.int .i64 0] 65);have D0:=Ah w (.cells #[.slice fa1 lcs.length fc1,.slice fa2 lms.length fc2] 63) (.cells #[.int .i64 0,.int .i64 0,.int .i64 0] 65);by_cases h1:i1=0
 ·subst h1;rw [if_neg (by simp)] at hR;by_cases h2:0≤hd
  ·rw [if_pos h2] at hR;have HE:=Ac hR;have hre:Pf.hres hd=(4,hd):=if_pos h2;rw [hre] at HIH;simp only at HIH;clear hR hre h2;go_enter Tryz.func40,Tryz.ntmps40;go_wp2_with fail
   refine (Aa HIC _ hB0).mono ?_;rintro e w1 ⟨rfl,hb1⟩;have hB1:=(QB hB0 hb1);have C1:=stay hb1 C0;have D1:=stay hb1 D0;have hs1:=hB1.size;have lD1:=lt_of_block D1;obtain ⟨x0,x1⟩:=cl2 C1;have l1:=lt_of_block C1;simp at x0 x1;have hB1':=hB1.alloc hs1 (.cells #[.int .i64 0,.int .i64 i2,.int .i64 0] 65);have C1':=Af C1 (.cells #[.int .i64 0,.int .i64 i2,.int .i64 0] 65);have D1':=Af D1 (.cells #[.int .i64 0,.int .i64 i2,.int .i64 0] 65);have E1':=Ad w1 (.cells #[.int .i64 0,.int .i64 i2,.int .i64 0] 65);clear C0 D0 hB0 hb1;go_wp2_with fail
   refine (Aa HTO _ hB1').mono ?_;rintro e w2 ⟨tg,cap,ya,yn,yc,rfl,hTr,-,-,hb2⟩;have hB2:=hB1'.trans (hb2.mono hB1'.size);have C2:=stay hb2 C1';have D2:=stay hb2 D1';have E2:=stay hb2 E1';have hs2:=hB2.size;obtain ⟨y0,y1⟩:=cl2 C2;have l2:=lt_of_block C2;simp at y0 y1;have hB2':=hB2.alloc hs2 (.cells #[.slice (some ⟨tg,0,none⟩) T.length cap,.slice ya yn yc] 89);have D2':=Af D2 (.cells #[.slice (some ⟨tg,0,none⟩) T.length cap,.slice ya yn yc] 89);have E2':=Af E2 (.cells #[.slice (some ⟨tg,0,none⟩) T.length cap,.slice ya yn yc] 89);clear x0 x1 l1 C1 D1 C1' D1' E1' hB1' hb2;go_wp2_with fail
   refine (Aa HIH ya yn yc tg cap _ hB2' (hTr.alloc _)).mono ?_;rintro e w3 ⟨rfl,hb3⟩;have hB3:=hB2'.trans (hb3.mono hB2'.size);have D3:=stay hb3 D2';have E3:=stay hb3 E2';have hs3:=hB3.size;have lE:=lt_of_block E3;have lD:=lt_of_block D3;obtain ⟨e0,e1,e2⟩:=cl3 E3;obtain ⟨g0,g1,g2⟩:=fr3 E3;obtain ⟨z0,z1,z2⟩:=cl3 D3;obtain ⟨q0,q1,q2⟩:=fr3 D3;simp at e0 e1 e2 z0 z1 z2;clear y0 y1 l2 C2 D2 E2 D2' E2' hB2' hb3;have hne:w1.heap.size ≠ w.heap.size+1:=by omega
   have hne':w.heap.size+1 ≠ w1.heap.size:=by omega
   go_wp2_with fail
   refine bodyPost_ret (v:=.agg #[.int .i64 4,.int .i64 hd,.int .i64 0]) (by simp [results,Tryz.results40,go_sem,z0,z1,z2]) rfl ?_;have e:=Aa HE;simp only [Prod.mk.injEq] at e;obtain ⟨rfl,rfl,rfl⟩:=e;exact ⟨rfl,(((((hB3.setCell (by simp;omega) _).setCell (by simp;omega) _).setCell (by simp;omega) _).setCell (by simp) _).setCell (by simp) _).setCell (by simp) _⟩
  ·rw [if_neg h2] at hR;have HE:=Ac hR;have hre:Pf.hres hd=(0,0):=if_neg h2;rw [hre] at HIH;simp only at HIH;clear hR hre h2;go_enter Tryz.func40,Tryz.ntmps40;go_wp2_with fail
   refine (Aa HIC _ hB0).mono ?_;rintro e w1 ⟨rfl,hb1⟩;have hB1:=(QB hB0 hb1);have C1:=stay hb1 C0;have D1:=stay hb1 D0;have hs1:=hB1.size;have lD1:=lt_of_block D1;obtain ⟨x0,x1⟩:=cl2 C1;have l1:=lt_of_block C1;simp at x0 x1;have hB1':=hB1.alloc hs1 (.cells #[.int .i64 0,.int .i64 i2,.int .i64 0] 65);have C1':=Af C1 (.cells #[.int .i64 0,.int .i64 i2,.int .i64 0] 65);have D1':=Af D1 (.cells #[.int .i64 0,.int .i64 i2,.int .i64 0] 65);have E1':=Ad w1 (.cells #[.int .i64 0,.int .i64 i2,.int .i64 0] 65);clear C0 D0 hB0 hb1;go_wp2_with fail
   refine (Aa HTO _ hB1').mono ?_;rintro e w2 ⟨tg,cap,ya,yn,yc,rfl,hTr,-,htg,hb2⟩;have hB2:=hB1'.trans (hb2.mono hB1'.size);have C2:=stay hb2 C1';have D2:=stay hb2 D1';have E2:=stay hb2 E1';have hs2:=hB2.size;obtain ⟨y0,y1⟩:=cl2 C2;have l2:=lt_of_block C2;simp at y0 y1;have hB2':=hB2.alloc hs2 (.cells #[.slice (some ⟨tg,0,none⟩) T.length cap,.slice ya yn yc] 89);have C2':=Af C2 (.cells #[.slice (some ⟨tg,0,none⟩) T.length cap,.slice ya yn yc] 89);have T2':=Ad w2 (.cells #[.slice (some ⟨tg,0,none⟩) T.length cap,.slice ya yn yc] 89);have D2':=Af D2 (.cells #[.slice (some ⟨tg,0,none⟩) T.length cap,.slice ya yn yc] 89);have E2':=Af E2 (.cells #[.slice (some ⟨tg,0,none⟩) T.length cap,.slice ya yn yc] 89);have hb2':w1.heap.size < w2.heap.size:=lt_of_block E2;clear x0 x1 l1 C1 D1 C1' D1' E1' hB1' hb2;go_wp2_with fail
   refine (Aa HIH ya yn yc tg cap _ hB2' (hTr.alloc _)).mono ?_;rintro e w3 ⟨rfl,hb3⟩;have hB3:=hB2'.trans (hb3.mono hB2'.size);have D3:=stay hb3 D2';have E3:=stay hb3 E2';have hs3:=hB3.size;have lE:=lt_of_block E3;have lD:=lt_of_block D3;obtain ⟨e0,e1,e2⟩:=cl3 E3;obtain ⟨g0,g1,g2⟩:=fr3 E3;simp at e0 e1 e2;have C3:=stay hb3 C2';have T3:=stay hb3 T2';have lC:=lt_of_block C3;have lT:=lt_of_block T3;obtain ⟨c0,c1⟩:=cl2 C3;obtain ⟨t0,t1⟩:=cl2 T3;simp at c0 c1 t0 t1;have hTr3:=(hTr.alloc (.cells #[.slice (some ⟨tg,0,none⟩) T.length cap,.slice ya yn yc] 89)).below hb3;clear y0 y1 l2 C2 D2 E2 D2' E2' C2' T2' hB2' hb3;have hne:w1.heap.size ≠ w.heap.size+1:=by omega
   have hne':w.heap.size+1 ≠ w1.heap.size:=by omega
   have hne2:w2.heap.size ≠ w1.heap.size:=by omega
   have htg':w1.heap.size ≠ tg:=by simp at htg;omega
   have hTr4:=((hTr3.set (i:=0) htg' (.int .i64 0)).set (i:=1) htg' (.int .i64 0)).set (i:=2) htg' (.int .i64 0);have hB4:=((hB3.setCell (p:=⟨w1.heap.size,0,none⟩) (by simp;omega) (.int .i64 0)).setCell (p:=⟨w1.heap.size,1,none⟩) (by simp;omega) (.int .i64 0)).setCell (p:=⟨w1.heap.size,2,none⟩) (by simp;omega) (.int .i64 0);have D4:(((w3.setCell ⟨w1.heap.size,0,none⟩ (.int .i64 0)).setCell ⟨w1.heap.size,1,none⟩ (.int .i64 0)).setCell ⟨w1.heap.size,2,none⟩ (.int .i64 0)).heap[w.heap.size+1]?=some (.cells #[.int .i64 0,.int .i64 0,.int .i64 0] 65 (0,0)):=by
    rw [Below.heap_setCell _ _ _ _ (by simpa using hne'),Below.heap_setCell _ _ _ _ (by simpa using hne'),Below.heap_setCell _ _ _ _ (by simpa using hne')];exact D3
   clear D3 hTr3 hTr hB3;go_wp2_with fail
   refine (Aa HIB ya yn yc tg cap _ hB4 hTr4).mono ?_;rintro e w5 ⟨rfl,hb5⟩;have hB5:=QB hB4 hb5;have D5:=stay hb5 D4;obtain ⟨z0,z1,z2⟩:=cl3 D5;obtain ⟨q0,q1,q2⟩:=fr3 D5;simp at z0 z1 z2;go_wp2_with fail
   refine bodyPost_ret (v:=.agg #[.int .i64 b1,.int .i64 b2,.int .i64 b3]) (by simp [results,Tryz.results40,go_sem,z0,z1,z2]) rfl ?_;have e:=Aa HE;simp only [Prod.mk.injEq] at e;obtain ⟨rfl,rfl,rfl⟩:=e;exact ⟨rfl,((hB5.setCell (by simp) _).setCell (by simp) _).setCell (by simp) _⟩
 ·rw [if_pos h1] at hR;have HE:=Ac hR;have h1':(i1 != 0)=true:=by simpa using h1
  clear hR h1;go_enter Tryz.func40,Tryz.ntmps40;go_wp2_with fail
  refine (Aa HIC _ hB0).mono ?_;rintro e w1 ⟨rfl,hb1⟩;have hB1:=(QB hB0 hb1);have D1:=stay hb1 D0;have hs1:=hB1.size;have lD:=lt_of_block D1;obtain ⟨z0,z1,z2⟩:=cl3 D1;obtain ⟨q0,q1,q2⟩:=fr3 D1;simp at z0 z1 z2;go_wp2_with fail
  refine bodyPost_ret (v:=.agg #[.int .i64 i1,.int .i64 i2,.int .i64 0]) (by simp [results,Tryz.results40,go_sem,z0,z1,z2,lD]) rfl ?_;have e:=Aa HE;simp only [Prod.mk.injEq] at e;obtain ⟨rfl,rfl,rfl⟩:=e;exact ⟨rfl,(((hB1.setCell (by simp) _).setCell (by simp) _).setCell (by simp) _).alloc (by simp;omega) _⟩
theorem Pm {α β:Type}{l:List (α × β)}{r:List α} (h:l.map Prod.fst=r) {P:α→Prop} (hp:∀ x∈r,P x):∀ p∈l,P p.1:=by
 intro p hpm;refine hp p.1 ?_;rw [← h];exact List.mem_map_of_mem hpm
theorem Qh {T:List Int}{nf:Int}{ow:List Int}:∀ (l:List Rd.Mth) (k:Nat),(Pf.bodies T nf ow k l).1=0→Pf.bodies T nf ow k l=(0,0,0):=by
 intro l
 induction l with
 | nil=>intro k _;rfl
 | cons m r ih =>
  intro k h;unfold Pf.bodies at h ⊢;by_cases h0:(Pf.body T nf ow m).1 ≠ 0
  ·rw [if_pos h0] at h;exact absurd h h0
  ·rw [if_neg h0] at h ⊢;exact ih _ h
theorem Uc (f:Rd.Fil) (h:(Pf.find f).1=0):Pf.find f=(0,0,0):=by
 unfold Pf.find at h ⊢;by_cases h1:(Tr.inCl (Tr.tree f.classes) 0 f.classes).1 ≠ 0
 ·rw [if_pos h1] at h;exact absurd h h1
 ·rw [if_neg h1] at h ⊢;unfold Pf.rest at h ⊢;by_cases h2:0≤Pf.heads (Tr.tree f.classes) f.methods 0 f.methods
  ·rw [if_pos h2] at h;simp at h
  ·rw [if_neg h2] at h ⊢;exact Qh _ _ h
theorem Na (s:ByteArray) (w:World) (hs:s.size≤maxLen) :
  Calls Tryz.prog 21 #[.string s] w fun e w' =>
   ∃ a1 n1 c1 a2 n2 c2,e=.returned (.tuple #[.agg #[.slice a1 n1 c1,.slice a2 n2 c2],.agg #[.int .i64 (Pf.read s.data.toList).1,.int .i64 (Pf.read s.data.toList).2.1,.int .i64 (Pf.read s.data.toList).2.2]]) ∧
    ((Pf.read s.data.toList).1=0→∃ lcs lms,lcs.map Prod.fst=(Rd.read s.data.toList).1.classes∧ClssIn w' w.heap.size (.slice a1 n1 c1) lcs∧lms.map Prod.fst=(Rd.read s.data.toList).1.methods∧MthsIn w' w.heap.size (.slice a2 n2 c2) lms)∧Below w.heap.size w w':=by
 have hRd:=fun w=>Ya s w hs;obtain ⟨hm6,hmb⟩:=Gu s.data.toList;obtain ⟨hc6,hcf⟩:=Hq s.data.toList;have hPz:(Pf.read s.data.toList).1=0→Pf.read s.data.toList=(0,0,0):=by
  intro h;unfold Pf.read at h ⊢;by_cases h1:(Rd.read s.data.toList).2 ≠ 0
  ·rw [if_pos h1] at h;exact absurd h h1
  ·rw [if_neg h1] at h ⊢;exact Uc _ h
 generalize hP:Pf.read s.data.toList=P at *;unfold Pf.read at hP;generalize Rd.read s.data.toList=q at *;obtain ⟨⟨cs,ms⟩,er⟩:=q;obtain ⟨P1,P2,P3⟩:=P;simp only [Prod.mk.injEq] at hRd hm6 hmb hc6 hcf hP hPz ⊢;have HPZ:=Ac hPz;clear hPz;have HRD:=Ac hRd;have HMB:=Ac hmb;have HCF:=Ac hcf;clear hRd hmb hcf;have hB0:=Aj w (.cells #[.slice none 0 0,.slice none 0 0] 63) (.cells #[.int .i64 0,.int .i64 0,.int .i64 0] 65);have C0:=Ak w (.cells #[.slice none 0 0,.slice none 0 0] 63) (.cells #[.int .i64 0,.int .i64 0,.int .i64 0] 65);have D0:=Ah w (.cells #[.slice none 0 0,.slice none 0 0] 63) (.cells #[.int .i64 0,.int .i64 0,.int .i64 0] 65);by_cases h1:er=0
 ·subst h1;rw [if_neg (by simp)] at hP;have HP:=Ac hP;clear hP;go_enter Tryz.func21,Tryz.ntmps21;go_wp2_with fail
  refine (Aa HRD _).mono ?_;rintro e w1 ⟨a1,n1,c1,a2,n2,c2,rfl,⟨lcs,hl1,hcs⟩,⟨lms,hl2,hms⟩,hb1⟩;obtain ⟨xa,xc,hsh⟩:=Ae hcs.1;simp only [Value.slice.injEq] at hsh;obtain ⟨rfl,rfl,rfl⟩:=hsh;obtain ⟨xa,xc,hsh⟩:=Ae hms.1;simp only [Value.slice.injEq] at hsh;obtain ⟨rfl,rfl,rfl⟩:=hsh;have hB1:=QB hB0 hb1;have hs1:=hB1.size;have C1:=stay hb1 C0;have D1:=stay hb1 D0;have lC:=lt_of_block C1;have lD:=lt_of_block D1;have hcs':ClssIn w1 (w.heap.size+1+1) (.slice a1 lcs.length c1) lcs:=by simpa using hcs
  have hms':MthsIn w1 (w.heap.size+1+1) (.slice a2 lms.length c2) lms:=by simpa using hms
  have hK1:Kp none (w.heap.size+1+1) w1 (w1.alloc (.cells #[.slice a1 lcs.length c1,.slice a2 lms.length c2] 63)):=Kp.alloc _ _;have hfi:=Xc a1 a2 c1 c2 lcs lms (w.heap.size+1+1) (w1.alloc (.cells #[.slice a1 lcs.length c1,.slice a2 lms.length c2] 63))
   (by have:=congrArg List.length hl2;simp at this;omega) (by have:=congrArg List.length hl1;simp at this;omega) (Pm hl1 (Aa HCF)) (hcs'.kp hK1 (by decide) (by decide)) (hms'.kp hK1 (by decide) (by decide) (by decide) (by decide) (by decide)) (Pm hl2 (Aa HMB))
  rw [hl1,hl2,Aa HP] at hfi;have HFI:=Ac hfi;have hB1':=hB1.alloc hs1 (.cells #[.slice a1 lcs.length c1,.slice a2 lms.length c2] 63);have C1':=Af C1 (.cells #[.slice a1 lcs.length c1,.slice a2 lms.length c2] 63);have D1':=Af D1 (.cells #[.slice a1 lcs.length c1,.slice a2 lms.length c2] 63);have E1':=Ad w1 (.cells #[.slice a1 lcs.length c1,.slice a2 lms.length c2] 63);clear hfi hcs hms hb1 C0 D0 hB0 C1 D1 hK1;go_wp2_with fail
  refine (Aa HFI).mono ?_;rintro e w2 ⟨rfl,hb2⟩;have hB2:=hB1'.trans (hb2.mono hB1'.size);have C2:=stay hb2 C1';have D2:=stay hb2 D1';have E2:=stay hb2 E1';have hcs2:=(hcs'.kp (Kp.alloc (e:=none) w1 (.cells #[.slice a1 lcs.length c1,.slice a2 lms.length c2] 63)) (by decide) (by decide)).kp (Kp.of_below (e:=none) hb2) (by decide) (by decide);have hms2:=(hms'.kp (Kp.alloc (e:=none) w1 (.cells #[.slice a1 lcs.length c1,.slice a2 lms.length c2] 63)) (by decide) (by decide) (by decide) (by decide) (by decide)).kp (Kp.of_below (e:=none) hb2) (by decide) (by decide) (by decide) (by decide) (by decide);have hs2:=hB2.size;have lC2:=lt_of_block C2;have lD2:=lt_of_block D2;have lE2:=lt_of_block E2;obtain ⟨x0,x1⟩:=cl2 E2;obtain ⟨y0,y1⟩:=cl2 C2;obtain ⟨z0,z1,z2⟩:=cl3 D2;obtain ⟨p0,p1⟩:=fr2 C2;obtain ⟨q0,q1,q2⟩:=fr3 D2;simp at x0 x1 y0 y1 z0 z1 z2;clear C1' D1' E1' hB1' hb2;by_cases h2:P1=0
  ·obtain ⟨-,rfl,rfl⟩:=Aa HPZ h2;subst h2;go_wp2_with fail
   refine bodyPost_ret (v:=.tuple #[.agg #[.slice a1 lcs.length c1,.slice a2 lms.length c2],.agg #[.int .i64 0,.int .i64 0,.int .i64 0]]) (by simp [results,Tryz.results21,go_sem,y0,y1,z0,z1,z2,lC2,lD2]) rfl ?_;have k1:Kp none (w.heap.size+1+1) w2 ((((((w2.setCell ⟨w.heap.size,0,none⟩ (.slice a1 lcs.length c1)).setCell ⟨w.heap.size,1,none⟩ (.slice a2 lms.length c2)).setCell ⟨w.heap.size+1,0,none⟩ (.int .i64 0)).setCell ⟨w.heap.size+1,1,none⟩ (.int .i64 0)).setCell ⟨w.heap.size+1,2,none⟩ (.int .i64 0)).alloc (.cells #[.int .i64 0,.int .i64 0,.int .i64 0] 65)) :=
    (((((Kp.set_lo (by omega) _).trans (Kp.set_lo (by omega) _)).trans (Kp.set_lo (by omega) _)).trans (Kp.set_lo (by omega) _)).trans (Kp.set_lo (by omega) _)).trans (Kp.alloc _ _)
   refine ⟨a1,lcs.length,c1,a2,lms.length,c2,rfl,?_,?_⟩
   ·first | intro _;exact ⟨lcs,lms,hl1,(hcs2.kp k1 (by decide) (by decide)).mono (by omega),hl2,(hms2.kp k1 (by decide) (by decide) (by decide) (by decide) (by decide)).mono (by omega)⟩ | exact ⟨lcs,hl1,(hcs2.kp k1 (by decide) (by decide)).mono (by omega),lms,hl2,(hms2.kp k1 (by decide) (by decide) (by decide) (by decide) (by decide)).mono (by omega)⟩
   ·exact (((((hB2.setCell (by simp) _).setCell (by simp) _).setCell (by simp) _).setCell (by simp) _).setCell (by simp) _).alloc (by simp;omega) _
  ·have h2':(P1 != 0)=true:=by simpa using h2
   go_wp2;have H2:=Ac h2;clear h2
   go_region
   go_wp2_with fail
   refine bodyPost_ret (v:=.tuple #[.agg #[.slice none 0 0,.slice none 0 0],.agg #[.int .i64 P1,.int .i64 P2,.int .i64 P3]]) (by simp [results,Tryz.results21,go_sem,y0,y1,z0,z1,z2,lC2,lD2]) rfl ?_;refine ⟨none,0,0,none,0,0,rfl,fun h=>absurd h (Aa H2),?_⟩;exact ((((((hB2.setCell (by simp) _).setCell (by simp) _).setCell (by simp) _).setCell (by simp) _).setCell (by simp) _).alloc (by simp;omega) _).drew
 ·rw [if_pos h1] at hP;have h1':(er != 0)=true:=by simpa using h1
  simp only [Prod.mk.injEq] at hP;obtain ⟨rfl,rfl,rfl⟩:=hP;have H1:=Ac h1;clear h1 HPZ;go_enter Tryz.func21,Tryz.ntmps21;go_wp2_with fail
  refine (Aa HRD _).mono ?_;rintro e w1 ⟨a1,n1,c1,a2,n2,c2,rfl,-,-,hb1⟩;have hB1:=QB hB0 hb1;have hs1:=hB1.size;have C1:=stay hb1 C0;have D1:=stay hb1 D0;have lC2:=lt_of_block C1;have lD2:=lt_of_block D1;obtain ⟨y0,y1⟩:=cl2 C1;obtain ⟨z0,z1,z2⟩:=cl3 D1;obtain ⟨p0,p1⟩:=fr2 C1;obtain ⟨q0,q1,q2⟩:=fr3 D1;simp at y0 y1 z0 z1 z2;go_wp2_with fail
  refine bodyPost_ret (v:=.tuple #[.agg #[.slice none 0 0,.slice none 0 0],.agg #[.int .i64 er,.int .i64 0,.int .i64 0]]) (by simp [results,Tryz.results21,go_sem,y0,y1,z0,z1,z2,lC2,lD2]) rfl ?_;refine ⟨none,0,0,none,0,0,rfl,fun h=>absurd h (Aa H1),?_⟩;exact (((((hB1.setCell (by simp) _).setCell (by simp) _).setCell (by simp) _).setCell (by simp) _).setCell (by simp) _).alloc (by simp;omega) _
theorem Fb {α:Type} (f:α→List UInt8) (c:Nat) (l:List α) (h:∀ x∈l,(f x).length≤c):(l.flatMap f).length≤l.length * c:=by
 induction l with
 | nil=>simp
 | cons x r ih =>
  have h1:=h x (List.mem_cons_self ..);have h2:=ih (fun y hy=>h y (List.mem_cons_of_mem _ hy));simp only [List.flatMap_cons,List.length_append,List.length_cons,Nat.add_mul];omega
def TyR (w:World) (v:Value) (l:List (Int × Int)):Prop :=
 (v=.slice none 0 0∧l=[])∨∃ g o c cur,v=.slice (some ⟨g,o,none⟩) l.length c∧w.heap[g]?=some (.cells cur 39 (0,0))∧l.length≤c∧c≤maxLen∧∀ j x,(Al l)[j]?=some x→w.cell? ⟨g,o+j,none⟩=some x
theorem TyR.nil (w:World):TyR w (.slice none 0 0) []:=.inl ⟨rfl,rfl⟩
theorem TyR.of_tys {w:World}{b:Nat}{v:Value}{l:List (Int × Int)} (h:TysAt w b v l):TyR w v l:=by
 obtain ⟨hl,⟨hv,hn⟩ | ⟨g,cap,cur,hv,hb,hg,hlen,hm,hsz,htk⟩⟩:=h
 ·exact .inl ⟨hv,List.eq_nil_of_length_eq_zero hn⟩
 ·refine .inr ⟨g,0,cap,cur,hv,hg,hlen,hm,fun j u hu=>?_⟩;have hj:j < (Al l).length:=(List.getElem?_eq_some_iff.1 hu).1;rw [Nat.zero_add,Ab hg,← hu,← htk,List.getElem?_take,if_pos (by rw [hl] at hj;exact hj)]
  simp
theorem TyR.below {w w':World}{v:Value}{l:List (Int × Int)} (h:TyR w v l) (hb:Below w.heap.size w w'):TyR w' v l:=by
 rcases h with h | ⟨g,o,c,cur,hv,hg,h1,h2,h3⟩
 ·exact .inl h
 ·exact .inr ⟨g,o,c,cur,hv,(hb.block g (lt_of_block hg)).trans hg,h1,h2,fun j x hx=>by rw [hb.cell (p:=⟨g,o+j,none⟩) (lt_of_block hg)];exact h3 j x hx⟩
theorem TyR.shape {w:World}{v:Value}{l:List (Int × Int)} (h:TyR w v l):∃ a c,v=.slice a l.length c:=by
 rcases h with ⟨rfl,rfl⟩ | ⟨g,o,c,cur,hv,_⟩
 ·exact ⟨none,0,rfl⟩
 ·exact ⟨_,c,hv⟩
theorem TyR.cap {w:World}{a:Option Addr}{n c:Nat}{l:List (Int × Int)} (h:TyR w (.slice a n c) l):n=l.length∧l.length≤c∧c≤maxLen:=by
 rcases h with ⟨h1,rfl⟩ | ⟨g,o,c',cur,hv,_,h1,h2,_⟩
 ·simp only [Value.slice.injEq] at h1;obtain ⟨_,rfl,rfl⟩:=h1;exact ⟨rfl,Nat.le_refl _,Nat.zero_le _⟩
 ·simp only [Value.slice.injEq] at hv;obtain ⟨_,rfl,rfl⟩:=hv;exact ⟨rfl,h1,h2⟩
theorem TyR.at {w:World}{a:Option Addr}{n c:Nat}{l:List (Int × Int)} (h:TyR w (.slice a n c) l) (hn:0 < l.length) :
  ∃ g o,a=some ⟨g,o,none⟩∧g < w.heap.size∧∀ k (hk:k < l.length),w.cell? ⟨g,o+k * 2,none⟩=some (.int .i64 l[k].1)∧w.cell? ⟨g,o+k * 2+1,none⟩=some (.int .i64 l[k].2):=by
 rcases h with ⟨_,rfl⟩ | ⟨g,o,c',cur,hv,hg,_,_,h3⟩
 ·simp at hn
 ·simp only [Value.slice.injEq] at hv;refine ⟨g,o,hv.1,lt_of_block hg,fun k hk=>?_⟩;obtain ⟨e1,e2,_⟩:=Bd l k hk;exact ⟨h3 _ _ e1,by rw [Nat.add_assoc];exact h3 _ _ e2⟩
theorem Qc (l:List (Int × Int)) (k:Nat):Al (l.take k)=(Al l).take (k * 2):=by
 induction l generalizing k with
 | nil=>simp [Al]
 | cons x r ih =>
  cases k with
  | zero=>simp [Al]
  | succ j =>
   have e:Al (x :: r)=.int .i64 x.1 :: .int .i64 x.2 :: Al r:=by simp [Al]
   have e':Al (x :: r.take j)=.int .i64 x.1 :: .int .i64 x.2 :: Al (r.take j):=by simp [Al]
   rw [List.take_succ_cons,e,e',ih,show (j+1) * 2=j * 2+1+1 by omega,List.take_succ_cons,List.take_succ_cons]
theorem TyR.new1 (w:World) (k n:Int):TyR (w.alloc (.cells #[.int .i64 k,.int .i64 n] 39)) (.slice (some ⟨w.heap.size,0,none⟩) 1 1) [(k,n)]:=by
 refine .inr ⟨w.heap.size,0,1,_,rfl,Ad w _,by simp,by unfold maxLen;omega,fun j x hx=>?_⟩;rw [Ab (Ad w _),Nat.zero_add]
 simpa [Al] using hx
theorem TyR.new2 (w:World) (k n k' n':Int):TyR (w.alloc (.cells #[.int .i64 k,.int .i64 n,.int .i64 k',.int .i64 n'] 39)) (.slice (some ⟨w.heap.size,0,none⟩) 2 2) [(k,n),(k',n')]:=by
 refine .inr ⟨w.heap.size,0,2,_,rfl,Ad w _,by simp,by unfold maxLen;omega,fun j x hx=>?_⟩;rw [Ab (Ad w _),Nat.zero_add]
 simpa [Al] using hx
theorem El {w:World}{ops:Array Oper}{rest:List Oper}{o:Oper}{a:Act}{Q:Exit→Act→World→Prop} (hgd:o.guard=none) (s x:Operand)
  (ho:o.op=.call { callee:=.builtin .append,args:=#[s,x],argTypes:=#[48,48] })
  (base:Nat) (v:Value) (xs ys:List (Int × Int)) (va:Option Addr) (vl vc:Nat) (hs:a.eval s=v) (hown:w.ownsRow base 39 2 v xs.length (Al xs)) (hx:a.eval x=.slice va vl vc) (hy:TyR w (.slice va vl vc) ys)
  (h1:xs.length+ys.length≤100000) (hbase:base≤w.heap.size)
  (h:∀ v' w',w'.ownsRow base 39 2 v' (xs ++ ys).length (Al (xs ++ ys))→w.grownBy w' v.ownBlock→wpList Tryz.prog ops Q rest (a.put o.dst v') w'):wpList Tryz.prog ops Q (o :: rest) a w:=by
 obtain ⟨i0,hi,hz0,hz1,hz2⟩:=info_parts Tryz.infoType;rcases hy with ⟨hv,rfl⟩ | ⟨g,of,c,cur,hv,hg,hc,hm,h3⟩
 ·refine wpList_append_own_none hgd s x _ ho base 39 i0 2 Tryz.underlying48 hi v _ _ hs hown (hx.trans hv) ?_;exact h v w (by simpa using hown) (World.grownBy.refl _ _)
 ·refine wpList_append_own w hgd s x _ ho base 39 i0 _ 2 16 Tryz.underlying48 hi hz0 hz1 hz2 rfl (by omega) v _ _ hs hown ⟨g,of,none⟩ ys.length c (Al ys) (hx.trans hv) (Fy ys) ?_ (Lm ys) (by unfold maxLen;omega) (by omega) hbase ?_
  ·intro j u hu;rw [Addr.add_lit];exact h3 j u hu
  ·intro v' w' ho' hg' _;exact h v' w' (by rw [List.length_append,Dv];exact ho') hg'
structure Ck.Fr where
 locals:List (Int × Int)
 stack:List (Int × Int)
def Ck.gives (r:Int × Int):List (Int × Int):=if r.1=0 then [] else [r]
def Ck.turned (a b:Int × Int) (l:List (Int × Int)):List (Int × Int):=l.map fun x=>if x=a then b else x
def Ck.fitAll (T:List Int):List (Int × Int)→List (Int × Int)→Bool
 | _,[]=>true
 | [],_ :: _=>false
 | s :: ss,t :: ts=>Tr.rfits T s.1 s.2 t.1 t.2 && Ck.fitAll T ss ts
def Ck.top (T:List Int) (st want:List (Int × Int)):Bool:=if st.length < want.length then false else Ck.fitAll T (st.drop (st.length - want.length)) want
def Ck.frameFits (T:List Int) (a b:Ck.Fr):Bool :=
 if a.stack.length ≠ b.stack.length then false else if a.locals.length ≠ b.locals.length then false else Ck.top T a.locals b.locals && Ck.top T a.stack b.stack
theorem Bi {B n:Nat}{a w:World} (h:Below B a w):Below B a (w.drewN n):=⟨h.os,h.tape,h.output,h.size,h.block⟩
theorem Qt (a b:Int × Int) (l:List (Int × Int)) (q:Nat) (hq:q < l.length):Ck.turned a b (l.take (q+1))=Ck.turned a b (l.take q) ++ [if l[q]=a then b else l[q]]:=by
 unfold Ck.turned;rw [List.take_succ_eq_append_getElem hq,List.map_append];rfl
theorem Ew {w:World}{b:Nat}{v:Value}{l:List (Int × Int)}{n:Nat} (h:w.ownsRow b 39 2 v n (Al l)) (hn:n=l.length):TyR w v l:=by
 subst hn;exact TyR.of_tys h
structure RFv where
 fa1:Option Addr
 fl:Nat
 fc1:Nat
 fa2:Option Addr
 fm:Nat
 fc2:Nat
def RFv.val (f:RFv):Value:=.agg #[.slice f.fa1 f.fl f.fc1,.slice f.fa2 f.fm f.fc2]
def RFl.v (f:RFl):RFv:=⟨f.a1,f.l.length,f.c1,f.a2,f.ms.length,f.c2⟩
def RFv.fitsAs (f:RFv) (T:List Int) (w:World):Prop:=∀ k n k' n' w',Below w.heap.size w w' →
 Calls Tryz.prog 96 #[f.val,.agg #[.int .i64 k,.int .i64 n],.agg #[.int .i64 k',.int .i64 n']] w' fun e w''=>e=.returned (.bool (Tr.rfits T k n k' n'))∧Below w'.heap.size w' w''
theorem RFv.fitsAs.below {f:RFv}{T:List Int}{w w':World} (h:f.fitsAs T w) (hb:Below w.heap.size w w'):f.fitsAs T w':=fun k n k' n' w'' h'=>h k n k' n' w'' (hb.trans (h'.mono hb.size))
theorem RFl.fitsAs {f:RFl}{w:World} (hf:f.ok w):f.v.fitsAs f.T w:=fun k n k' n' w' hb=>Vy f.a1 f.a2 f.c1 f.ms.length f.c2 f.bb f.l k n k' n' w' (by have:=hf.1;omega) (hf.below hb).2.2.2.2.1
theorem Px (f:RFv) (T:List Int) (st wa:List (Int × Int)) (a1 a2:Option Addr) (n1 c1 n2 c2:Nat) (w:World) (hF:f.fitsAs T w) (h1:TyR w (.slice a1 n1 c1) st) (h2:TyR w (.slice a2 n2 c2) wa) (hl1:st.length≤20000) (hl2:wa.length≤20000) :
  Calls Tryz.prog 59 #[f.val,.slice a1 n1 c1,.slice a2 n2 c2] w fun e w'=>e=.returned (.bool (Ck.top T st wa))∧Below w.heap.size w w':=by
 obtain ⟨rfl,-,-⟩:=h1.cap;obtain ⟨rfl,-,-⟩:=h2.cap;obtain ⟨fa1,fl,fc1,fa2,fm,fc2⟩:=f;unfold RFv.fitsAs at hF;simp only [RFv.val] at hF ⊢;have HF:=Ac hF;clear hF;have hB0:Below w.heap.size w (w.alloc (.cells #[.slice fa1 fl fc1,.slice fa2 fm fc2] 44)):=(Below.refl _ _).alloc (Nat.le_refl _) _;have C0:=Ad w (.cells #[.slice fa1 fl fc1,.slice fa2 fm fc2] 44);unfold Ck.top;by_cases hlt:st.length < wa.length
 ·rw [if_pos hlt];have hlt':(st.length:Int) - (wa.length:Int) < 0:=by omega
  clear hlt;go_enter Tryz.func59,Tryz.ntmps59;go_wp2;go_ret;exact ⟨rfl,hB0⟩
 ·rw [if_neg hlt];obtain ⟨low,hlow⟩:∃ low:Nat,st.length=low+wa.length:=⟨st.length - wa.length,by omega⟩;have e0:st.length - wa.length=low:=by omega
  rw [e0];generalize hr:Ck.fitAll T (st.drop low) wa=r;have HR:Hid (Ck.fitAll T ((st.drop low).drop 0) (wa.drop 0)=r):=hr;have hsub:(st.length:Int) - (wa.length:Int)=(low:Int):=by omega
  have hle:low+wa.length≤st.length:=by omega
  have hge:st.length≤low+wa.length:=by omega
  clear hlt e0 hr hlow;go_enter Tryz.func59,Tryz.ntmps59;go_wp2
  go_loopw [8] (fun i wr=>∃ q:Nat,q≤wa.length∧i=.int .i64 (q:Int)∧Hid (Ck.fitAll T ((st.drop low).drop q) (wa.drop q)=r)∧Below w.heap.size w wr∧wr.heap[w.heap.size]?=some (.cells #[.slice fa1 fl fc1,.slice fa2 fm fc2] 44 (0,0)))
   (fun i _=>wa.length - (intOf i).toNat)
  case atStart=>exact ⟨0,by omega,rfl,HR,hB0,C0⟩
  case round =>
   clear HR hB0 C0;obtain ⟨q,hq,rfl,HR,hB,hC⟩:=hrel;have hBs:=hB.size;have lF:=lt_of_block hC;by_cases hkn:q < wa.length
   ·obtain ⟨g,o,rfl,hg,hat⟩:=(h1.below hB).at (by omega);obtain ⟨g2,o2,rfl,hg2,hat2⟩:=(h2.below hB).at (by omega);have hlq:low+q < st.length:=by omega
    obtain ⟨x0,x1⟩:=hat (low+q) hlq;obtain ⟨y0,y1⟩:=hat2 q hkn;have hr:=Aa HR;have e1:(st.drop low).drop q=st[low+q] :: (st.drop low).drop (q+1):=by
     rw [List.drop_drop,List.drop_drop,List.drop_eq_getElem_cons hlq];rfl
    have e2:wa.drop q=wa[q] :: wa.drop (q+1):=List.drop_eq_getElem_cons hkn;rw [e1,e2,Ck.fitAll] at hr;generalize st[low+q]=s at *;generalize wa[q]=t at *;obtain ⟨s1,s2⟩:=s;obtain ⟨t1,t2⟩:=t;simp only at x0 x1 y0 y1 hr;have hc:=Aa HF s1 s2 t1 t2 _ hB.drew;generalize Tr.rfits T s1 s2 t1 t2=A at *;have HC:=Ac hc;obtain ⟨f0,f1⟩:=cl2 hC;simp at f0 f1;have kb:(q:Int) < (wa.length:Int):=by omega
    have kb2:(low:Int)+(q:Int) < (st.length:Int):=by omega
    have kw:IntKind.i64.wrap ((low:Int)+(q:Int))=(low:Int)+(q:Int):=Eg _ (by omega) (by omega);have kn:((low:Int)+(q:Int)).toNat=low+q:=by omega
    have k0:(0:Int)≤(low:Int)+(q:Int):=by omega
    clear hat hat2 e1 e2 hc HR;go_wp2
    go_region_held3 (fun w'=>w'.cell? ⟨w.heap.size,0,none⟩=some (.slice fa1 fl fc1)∧w'.cell? ⟨w.heap.size,1,none⟩=some (.slice fa2 fm fc2)∧w'.cell? ⟨g,o+(low+q) * 2,none⟩=some (.int .i64 s1)∧w'.cell? ⟨g,o+(low+q) * 2+1,none⟩=some (.int .i64 s2)∧w'.cell? ⟨g2,o2+q * 2,none⟩=some (.int .i64 t1)∧w'.cell? ⟨g2,o2+q * 2+1,none⟩=some (.int .i64 t2))
     (first | exact ⟨f0,f1,x0,x1,y0,y1⟩ | exact ⟨(hb7.cell lF).trans f0,(hb7.cell lF).trans f1,(hb7.cell hg).trans x0,(hb7.cell hg).trans x1,(hb7.cell hg2).trans y0,(hb7.cell hg2).trans y1⟩)
     (first | (go_at_call 96;refine (Aa HC).mono ?_;rintro e w7 ⟨rfl,hb7⟩))
    have hB7:=hB.drew.trans (hb7.mono hBs);have hC7:=stay hb7 (show (wr.drew).heap[w.heap.size]?=_ from hC);clear hb7 x0 x1 y0 y1 f0 f1 HC;cases A with
    | true =>
     have HG:Hid (Ck.fitAll T ((st.drop low).drop (q+1)) (wa.drop (q+1))=r):=by unfold Hid;rw [← hr];simp
     clear hr;go_wp2
     go_roundw
     case rel=>exact ⟨q+1,by omega,by go_num,HG,hB7,hC7⟩
     case measure=>simp [intOf];omega
    | false =>
     have HE:Hid (r=false):=by unfold Hid;rw [← hr];simp
     clear hr;go_wp2;go_ret;exact ⟨by rw [Aa HE];rfl,hB7⟩
   ·have HE:Hid (r=true):=by unfold Hid;rw [← Aa HR,List.drop_eq_nil_of_le (by omega:wa.length≤q),Ck.fitAll]
    have kb:¬ (q:Int) < (wa.length:Int):=by omega
    clear HR;go_wp2;go_ret;exact ⟨by rw [Aa HE];rfl,hB⟩
structure FrV where
 la:Option Addr
 ln:Nat
 lc:Nat
 sa:Option Addr
 sn:Nat
 sc:Nat
def FrV.val (v:FrV):Value:=.agg #[.slice v.la v.ln v.lc,.slice v.sa v.sn v.sc]
structure FrV.is (v:FrV) (x:Ck.Fr) (w:World):Prop where
 lo:TyR w (.slice v.la v.ln v.lc) x.locals
 st:TyR w (.slice v.sa v.sn v.sc) x.stack
 hl:x.locals.length≤5000
 hs:x.stack.length≤5000
theorem FrV.is.below {v:FrV}{x:Ck.Fr}{w w':World} (h:v.is x w) (hb:Below w.heap.size w w'):v.is x w':=⟨h.lo.below hb,h.st.below hb,h.hl,h.hs⟩
theorem Mh (f:RFv) (T:List Int) (u v:FrV) (x y:Ck.Fr) (w:World) (hF:f.fitsAs T w) (hu:u.is x w) (hv:v.is y w) :
  Calls Tryz.prog 34 #[f.val,u.val,v.val] w fun e w'=>e=.returned (.bool (Ck.frameFits T x y))∧Below w.heap.size w w':=by
 have hT1:=fun w' (h:Below w.heap.size w w')=>Px f T x.locals y.locals u.la v.la u.ln u.lc v.ln v.lc w' (hF.below h) (hu.lo.below h) (hv.lo.below h) (by have:=hu.hl;omega) (by have:=hv.hl;omega);have hT2:=fun w' (h:Below w.heap.size w w')=>Px f T x.stack y.stack u.sa v.sa u.sn u.sc v.sn v.sc w' (hF.below h) (hu.st.below h) (hv.st.below h) (by have:=hu.hs;omega) (by have:=hv.hs;omega);obtain ⟨e1,-,-⟩:=hu.lo.cap;obtain ⟨e2,-,-⟩:=hu.st.cap;obtain ⟨e3,-,-⟩:=hv.lo.cap;obtain ⟨e4,-,-⟩:=hv.st.cap;have b1:=hu.hl;have b2:=hu.hs;have b3:=hv.hl;have b4:=hv.hs;generalize hR:Ck.frameFits T x y=R;unfold Ck.frameFits at hR;rw [← e1,← e2,← e3,← e4] at hR;generalize Ck.top T x.locals y.locals=P at *;generalize Ck.top T x.stack y.stack=Q at *;clear hF hu hv;obtain ⟨fa1,fl,fc1,fa2,fm,fc2⟩:=f;obtain ⟨la,ln,lc,sa,sn,sc⟩:=u;obtain ⟨la',ln',lc',sa',sn',sc'⟩:=v;simp only [RFv.val,FrV.val] at hT1 hT2 hR e1 e2 e3 e4 ⊢;have bn1:ln≤5000:=by omega
 have bn2:sn≤5000:=by omega
 have bn3:ln'≤5000:=by omega
 have bn4:sn'≤5000:=by omega
 have H1:=Ac hT1;have H2:=Ac hT2;have hB0:=Ba w (.cells #[.slice fa1 fl fc1,.slice fa2 fm fc2] 44) (.cells #[.slice la ln lc,.slice sa sn sc] 80) (.cells #[.slice la' ln' lc',.slice sa' sn' sc'] 80);have C0:=Eo w (.cells #[.slice fa1 fl fc1,.slice fa2 fm fc2] 44) (.cells #[.slice la ln lc,.slice sa sn sc] 80) (.cells #[.slice la' ln' lc',.slice sa' sn' sc'] 80);clear hT1 hT2 e1 e2 e3 e4 b1 b2 b3 b4;by_cases h1:sn=sn'
 ·subst h1;rw [if_neg (by simp)] at hR;by_cases h2:ln=ln'
  ·subst h2;rw [if_neg (by simp)] at hR;have HE:=Ac hR;clear hR;go_enter Tryz.func34,Tryz.ntmps34;go_wp2_with fail
   refine (Aa H1 _ hB0).mono ?_;rintro e w1 ⟨rfl,hb1⟩;have hB1:=QB hB0 hb1;have F1:=stay hb1 C0.1;have A1:=stay hb1 C0.2.1;have B1:=stay hb1 C0.2.2;obtain ⟨f0,f1⟩:=cl2 F1;have a1:=Ab A1 1;have b1:=Ab B1 1;have lF:=lt_of_block F1;have lA:=lt_of_block A1;have lB:=lt_of_block B1;simp at f0 f1 a1 b1;go_wp2_with fail
   refine (Aa H2 _ hB1).mono ?_;rintro e w2 ⟨rfl,hb2⟩;have hB2:=QB hB1 hb2;cases P with
   | true =>
    go_wp2;go_ret;exact ⟨by rw [← Aa HE];rfl,hB2⟩
   | false =>
    go_wp2;go_ret;exact ⟨by rw [← Aa HE];rfl,hB2⟩
  ·rw [if_pos h2] at hR;have HE:=Ac hR;have h2':((ln:Int) != (ln':Int))=true:=by simp;omega
   clear hR h2;go_enter Tryz.func34,Tryz.ntmps34;go_wp2;go_ret;exact ⟨by rw [← Aa HE];rfl,hB0⟩
 ·rw [if_pos h1] at hR;have HE:=Ac hR;have h1':((sn:Int) != (sn':Int))=true:=by simp;omega
  clear hR h1;go_enter Tryz.func34,Tryz.ntmps34;go_wp2;go_ret;exact ⟨by rw [← Aa HE];rfl,hB0⟩
def Ck.jumps (op:Int):Bool:=decide (op=11∨op=12∨op=13∨op=14)
def Ck.goes (op:Int):Bool:=decide (¬ (op=11∨op=22∨op=23))
def Ck.mapAt (p:Int):List Rd.Mp→Option Ck.Fr
 | []=>none
 | m :: r=>if m.place=p then some ⟨m.locals,m.stack⟩ else Ck.mapAt p r
def Ck.orNone (x:Option Ck.Fr):Ck.Fr:=x.getD ⟨[],[]⟩
def Ck.own (cl:Int) (ps:List (Int × Int)):List (Int × Int):=(if cl=255 then [] else [(3,cl)]) ++ ps
def Ck.start (cl:Int) (ps:List (Int × Int)) (lo:Nat):Ck.Fr:=⟨Ck.own cl ps ++ List.replicate (lo - (Ck.own cl ps).length) (0,0),[]⟩
def Ck.takes (F:List Rf.Fld) (ms:List Rd.Mth) (res:Int × Int) (op n:Int):List (Int × Int) :=
 if op=7∨op=8∨op=9∨op=10∨op=13 then [(1,0),(1,0)] else if op=12∨op=25 then [(1,0)] else if op=14∨op=19 then [(3,0)]
 else if op=17 then [(3,(F.getD n.toNat ⟨0,0,(0,0)⟩).owner)] else if op=18 then [(3,(F.getD n.toNat ⟨0,0,(0,0)⟩).owner),(F.getD n.toNat ⟨0,0,(0,0)⟩).t]
 else if op=20 then (ms.getD n.toNat ⟨0,0,[],(0,0),0,0,[],[],[]⟩).params else if op=21 then (3,(ms.getD n.toNat ⟨0,0,[],(0,0),0,0,[],[],[]⟩).cl) :: (ms.getD n.toNat ⟨0,0,[],(0,0),0,0,[],[],[]⟩).params
 else if op=22 then Ck.gives res else if op=23 then [(3,1)] else []
def Ck.leaves (F:List Rf.Fld) (ms:List Rd.Mth) (op n:Int):List (Int × Int) :=
 if op=0∨op=7∨op=8∨op=9∨op=10∨op=24 then [(1,0)] else if op=1 then [(2,0)] else if op=17 then [(F.getD n.toNat ⟨0,0,(0,0)⟩).t]
 else if op=19 then [(3,n)] else if op=20∨op=21 then Ck.gives (ms.getD n.toNat ⟨0,0,[],(0,0),0,0,[],[],[]⟩).result else []
def Ck.set (T:List Int) (want:List (Int × Int)) (arg:Int→Int) (c:Int) (x:Ck.Fr):Option Ck.Fr :=
 if Ck.top T x.stack want=false then none else if x.stack.length < want.length+1 then none
 else if (x.stack.getD (x.stack.length - want.length - 1) (0,0)).1 ≠ 4 then none
 else if arg (x.stack.getD (x.stack.length - want.length - 1) (0,0)).2 ≠ c then none
 else some ⟨Ck.turned (x.stack.getD (x.stack.length - want.length - 1) (0,0)) (3,c) x.locals,Ck.turned (x.stack.getD (x.stack.length - want.length - 1) (0,0)) (3,c) (x.stack.take (x.stack.length - want.length - 1))⟩
def Ck.moved (T:List Int) (F:List Rf.Fld) (ms:List Rd.Mth) (want:Int→List (Int × Int)) (arg:Int→Int) (res:Int × Int) (p op n:Int) (x:Ck.Fr):Option Ck.Fr :=
 if op=2 then (if (x.locals.getD n.toNat (0,0)).1=0 then none else some ⟨x.locals,x.stack ++ [x.locals.getD n.toNat (0,0)]⟩)
 else if op=3 then (if x.stack.length < 1 then none else some ⟨x.locals.set n.toNat (x.stack.getD (x.stack.length - 1) (0,0)),x.stack.take (x.stack.length - 1)⟩)
 else if op=4 then (if x.stack.length < 1 then none else some ⟨x.locals,x.stack.take (x.stack.length - 1)⟩)
 else if op=5 then (if x.stack.length < 1 then none else some ⟨x.locals,x.stack ++ x.stack.drop (x.stack.length - 1)⟩)
 else if op=6 then (if x.stack.length < 2 then none else some ⟨x.locals,x.stack.take (x.stack.length - 2) ++ [x.stack.getD (x.stack.length - 1) (0,0),x.stack.getD (x.stack.length - 2) (0,0)]⟩)
 else if op=15 then some ⟨Ck.turned (4,p) (0,0) x.locals,Ck.turned (4,p) (0,0) x.stack ++ [(4,p)]⟩
 else if op=16 then Ck.set T (want n) arg n x
 else if Ck.top T x.stack (Ck.takes F ms res op n)=false then none
 else some ⟨x.locals,x.stack.take (x.stack.length - (Ck.takes F ms res op n).length) ++ Ck.leaves F ms op n⟩
theorem Tl (l:List (Int × Int)) (q:Nat) (t1 t2:Int):Al (l.set q (t1,t2))=((Al l).set (q * 2) (.int .i64 t1)).set (q * 2+1) (.int .i64 t2):=by
 induction l generalizing q with
 | nil=>simp [Al]
 | cons x r ih =>
  have e:∀ (y:Int × Int) (s:List (Int × Int)),Al (y :: s)=.int .i64 y.1 :: .int .i64 y.2 :: Al s:=fun y s=>by simp [Al]
  cases q with
  | zero=>rw [List.set_cons_zero,e,e];rfl
  | succ j=>rw [List.set_cons_succ,e,e,ih,show (j+1) * 2=j * 2+1+1 by omega];rfl
theorem Hp {w:World}{b:Nat}{a:Option Addr}{n c:Nat}{l:List (Int × Int)} (h:TysAt w b (.slice a n c) l) {q:Nat} (hq:q < l.length) (t1 t2:Int) :
  ∃ g,a=some ⟨g,0,none⟩∧g < w.heap.size∧b≤g∧w.cell? ⟨g,q * 2,none⟩=some (.int .i64 l[q].1)∧w.cell? ⟨g,q * 2+1,none⟩=some (.int .i64 l[q].2)∧w.frozen? ⟨g,q * 2,none⟩=false∧w.frozen? ⟨g,q * 2+1,none⟩=false ∧
   TysAt ((w.setCell ⟨g,q * 2,none⟩ (.int .i64 t1)).setCell ⟨g,q * 2+1,none⟩ (.int .i64 t2)) b (.slice a n c) (l.set q (t1,t2)):=by
 obtain ⟨g',o',ha',_,hat⟩:=(TyR.of_tys h).at (by omega);obtain ⟨hl,⟨hv,hn⟩ | ⟨g,cap,cur,hv,hb,hg,hlen,hm,hsz,htk⟩⟩:=h
 ·omega
 ·simp only [Value.slice.injEq] at hv;obtain ⟨rfl,rfl,rfl⟩:=hv;simp only [Option.some.injEq,Addr.mk.injEq] at ha';obtain ⟨rfl,rfl,-⟩:=ha';obtain ⟨c0,c1⟩:=hat q hq;simp only [Nat.zero_add] at c0 c1;refine ⟨g,rfl,lt_of_block hg,hb,c0,c1,Ag hg _,Ag hg _,?_⟩;refine ⟨by rw [Fy],.inr ⟨g,c,_,by rw [List.length_set],hb,Ai (Ai hg _) _,by rw [List.length_set];exact hlen,hm,by simpa using hsz,?_⟩⟩;rw [List.length_set,Tl,← htk];simp only [Array.toList_setIfInBounds];rw [List.take_set,List.take_set]
theorem TyR.set_frame {w:World}{v:Value}{l:List (Int × Int)}{z:Nat}{a1 a2:Option Addr}{n1 c1 n2 c2:Nat}{ty:TypeId} (h:TyR w v l) (hz:w.heap[z]?=some (.cells #[.slice a1 n1 c1,.slice a2 n2 c2] ty (0,0))) (s t:Value):TyR ((w.setCell ⟨z,0,none⟩ s).setCell ⟨z,1,none⟩ t) v l:=by
 rcases h with h | ⟨g,o,c,cur,hv,hg,h1,h2,h3⟩
 ·exact .inl h
 ·obtain ⟨cur',hg'⟩:∃ cur',((w.setCell ⟨z,0,none⟩ s).setCell ⟨z,1,none⟩ t).heap[g]?=some (.cells cur' 39 (0,0)):=by
   by_cases e:g=z
   ·subst e;have e2:=hg.symm.trans hz;simp only [Option.some.injEq,Obj.cells.injEq] at e2;obtain ⟨_,rfl,_⟩:=e2;exact ⟨_,Ai (Ai hz s) t⟩
   ·exact ⟨cur,((Below.heap_setCell _ _ _ _ (by simpa using e)).trans (Below.heap_setCell _ _ _ _ (by simpa using e))).trans hg⟩
  refine .inr ⟨g,o,c,cur',hv,hg',h1,h2,fun j x hx=>?_⟩;have hne:g ≠ z:=by
   intro e;subst e;have h4:=h3 j x hx;rw [Ab hz] at h4;have hint:∃ k,x=Value.int .i64 k:=by
    have:=List.mem_of_getElem? hx;simp only [Al,List.mem_flatMap,List.mem_cons,List.not_mem_nil,or_false] at this;obtain ⟨y,_,rfl | rfl⟩:=this <;> exact ⟨_,rfl⟩
   obtain ⟨k,rfl⟩:=hint;generalize o+j=i at h4
   match i,h4 with
   | 0,h4=>simp at h4
   | 1,h4=>simp at h4
   | i+2,h4=>simp at h4
  rw [World.cell?_setCell_other _ _ _ _ (by intro e;exact hne (congrArg Addr.block e).symm),World.cell?_setCell_other _ _ _ _ (by intro e;exact hne (congrArg Addr.block e).symm)];exact h3 j x hx
theorem Rw (F:List Rf.Fld) (ms:List Rd.Mth) (op n:Int):(Ck.leaves F ms op n).length≤1:=by
 have hr:∀ res,(Ck.gives res).length≤1:=fun res=>by unfold Ck.gives;split <;> simp
 unfold Ck.leaves
 split
 ·simp
 ·split
  ·simp
  ·split
   ·simp
   ·split
    ·simp
    ·split
     ·exact hr _
     ·simp
def Ck.rule (st:Int) (y:Option Ck.Fr):Option Ck.Fr:=y.bind fun z=>if (z.stack.length:Int)≤st then some z else none
def Ck.handlers (T:List Int) (mp:Int→Option Ck.Fr) (p:Int) (lo:List (Int × Int)):List Rd.Hnd→Int
 | []=>0
 | h :: r=>if p < h.frm then Ck.handlers T mp p lo r else if h.til≤p then Ck.handlers T mp p lo r
  else if (mp h.target).isSome=false then 8 else if Ck.frameFits T ⟨lo,[(3,h.cl)]⟩ (Ck.orNone (mp h.target))=false then 9 else Ck.handlers T mp p lo r
def Ck.movedL (T:List Int) (tk lv want:List (Int × Int)) (arg:Int→Int) (p op n:Int) (x:Ck.Fr):Option Ck.Fr :=
 if op=2 then (if (x.locals.getD n.toNat (0,0)).1=0 then none else some ⟨x.locals,x.stack ++ [x.locals.getD n.toNat (0,0)]⟩)
 else if op=3 then (if x.stack.length < 1 then none else some ⟨x.locals.set n.toNat (x.stack.getD (x.stack.length - 1) (0,0)),x.stack.take (x.stack.length - 1)⟩)
 else if op=4 then (if x.stack.length < 1 then none else some ⟨x.locals,x.stack.take (x.stack.length - 1)⟩)
 else if op=5 then (if x.stack.length < 1 then none else some ⟨x.locals,x.stack ++ x.stack.drop (x.stack.length - 1)⟩)
 else if op=6 then (if x.stack.length < 2 then none else some ⟨x.locals,x.stack.take (x.stack.length - 2) ++ [x.stack.getD (x.stack.length - 1) (0,0),x.stack.getD (x.stack.length - 2) (0,0)]⟩)
 else if op=15 then some ⟨Ck.turned (4,p) (0,0) x.locals,Ck.turned (4,p) (0,0) x.stack ++ [(4,p)]⟩
 else if op=16 then Ck.set T want arg n x
 else if Ck.top T x.stack tk=false then none
 else some ⟨x.locals,x.stack.take (x.stack.length - tk.length) ++ lv⟩
theorem Ho (T:List Int) (F:List Rf.Fld) (ms:List Rd.Mth) (want:Int→List (Int × Int)) (arg:Int→Int) (res:Int × Int) (p op n:Int) (x:Ck.Fr) :
  Ck.moved T F ms want arg res p op n x=Ck.movedL T (Ck.takes F ms res op n) (Ck.leaves F ms op n) (want n) arg p op n x:=rfl
structure Pk.B where
 lo:List (Int × Int)
 st:List (Int × Int)
 br:Bool
def Pk.take (b:Pk.B):(Int × Int) × Pk.B :=
 if b.st.length=0 then ((0,0),⟨b.lo,b.st,true⟩) else (b.st.getD (b.st.length - 1) (0,0),⟨b.lo,b.st.take (b.st.length - 1),b.br⟩)
def Pk.fit (T:List Int) (t x:Int × Int) (b:Pk.B):Pk.B:=if Tr.fitsB T t.1 t.2 x.1 x.2=true then b else ⟨b.lo,b.st,true⟩
def Pk.takeTo (T:List Int) (l:List (Int × Int)):Nat→Pk.B→Pk.B
 | 0,b=>b
 | i+1,b=>Pk.takeTo T l i (Pk.fit T (Pk.take b).1 (l.getD i (0,0)) (Pk.take b).2)
def Pk.takeAll (T:List Int) (l:List (Int × Int)) (b:Pk.B):Pk.B:=Pk.takeTo T l l.length b
def Pk.leave (hi:Int) (t:Int × Int) (b:Pk.B):Pk.B:=if hi≤(b.st.length:Int) then ⟨b.lo,b.st,true⟩ else ⟨b.lo,b.st ++ [t],b.br⟩
def Pk.leaveAll (hi:Int):List (Int × Int)→Pk.B→Pk.B
 | [],b=>b
 | t :: r,b=>Pk.leaveAll hi r (Pk.leave hi t b)
def Pk.load (hi n:Int) (b:Pk.B):Pk.B :=
 if n < 0 then ⟨b.lo,b.st,true⟩ else if (b.lo.length:Int)≤n then ⟨b.lo,b.st,true⟩ else if (b.lo.getD n.toNat (0,0)).1=0 then ⟨b.lo,b.st,true⟩ else Pk.leave hi (b.lo.getD n.toNat (0,0)) b
def Pk.store (n:Int) (b:Pk.B):Pk.B :=
 if n < 0 then ⟨b.lo,(Pk.take b).2.st,true⟩ else if (b.lo.length:Int)≤n then ⟨b.lo,(Pk.take b).2.st,true⟩ else ⟨b.lo.set n.toNat (Pk.take b).1,(Pk.take b).2.st,(Pk.take b).2.br⟩
def Pk.become (old fresh:Int × Int) (b:Pk.B):Pk.B:=⟨Ck.turned old fresh b.lo,Ck.turned old fresh b.st,b.br⟩
def Pk.swap (hi:Int) (b:Pk.B):Pk.B:=Pk.leave hi (Pk.take (Pk.take b).2).1 (Pk.leave hi (Pk.take b).1 (Pk.take (Pk.take b).2).2)
def Pk.dup (hi:Int) (b:Pk.B):Pk.B:=Pk.leave hi (Pk.take b).1 (Pk.leave hi (Pk.take b).1 (Pk.take b).2)
def Pk.setAt (isNew:Int→Bool) (c:Int) (t:Int × Int) (b:Pk.B):Pk.B :=
 if t.1 ≠ 4 then ⟨b.lo,b.st,true⟩ else if isNew t.2=false then ⟨b.lo,b.st,true⟩ else Pk.become t (3,c) b
def Pk.set (T:List Int) (want:List (Int × Int)) (isNew:Int→Bool) (c:Int) (b:Pk.B):Pk.B :=
 Pk.setAt isNew c (Pk.take (Pk.takeAll T want b)).1 (Pk.take (Pk.takeAll T want b)).2
def Pk.out (b:Pk.B):Option Ck.Fr:=if b.br=true then none else some ⟨b.lo,b.st⟩
def Pk.works (T:List Int) (hi:Int) (tk lv want:List (Int × Int)) (isNew:Int→Bool) (p op n:Int) (b:Pk.B):Pk.B :=
 if op=2 then Pk.load hi n b else if op=3 then Pk.store n b else if op=4 then (Pk.take b).2 else if op=5 then Pk.dup hi b else if op=6 then Pk.swap hi b
 else if op=15 then Pk.leave hi (4,p) (Pk.become (4,p) (0,0) b) else if op=16 then Pk.set T want isNew n b else Pk.leaveAll hi lv (Pk.takeAll T tk b)
def Pk.behind (T:List Int) (hi:Int) (tk lv want:List (Int × Int)) (isNew:Int→Bool) (p op n:Int) (x:Ck.Fr):Option Ck.Fr:=Pk.out (Pk.works T hi tk lv want isNew p op n ⟨x.locals,x.stack,false⟩)
def Pk.fitAll (T:List Int):List (Int × Int)→List (Int × Int)→Bool
 | _,[]=>true
 | [],_ :: _=>false
 | s :: ss,t :: ts=>Tr.fitsB T s.1 s.2 t.1 t.2 && Pk.fitAll T ss ts
theorem Dn {T:List Int} (hT:Tr.Ok T):∀ (a b:List (Int × Int)),(∀ t∈a,Tr.Arg T t.1 t.2)→(∀ t∈b,Tr.Arg T t.1 t.2)→Ck.fitAll T a b=Pk.fitAll T a b
 | _,[],_,_=>by simp [Ck.fitAll,Pk.fitAll]
 | [],_ :: _,_,_=>by simp [Ck.fitAll,Pk.fitAll]
 | s :: ss,t :: ts,ha,hb=>by
  rw [Ck.fitAll,Pk.fitAll,Tr.rfits_eq hT (ha s (by simp)) (hb t (by simp)),Dn hT ss ts (fun x hx=>ha x (by simp [hx])) (fun x hx=>hb x (by simp [hx]))]
theorem M8 (T:List Int) (t x:Int × Int):∀ (a b:List (Int × Int)),a.length=b.length→Pk.fitAll T (a ++ [t]) (b ++ [x])=(Pk.fitAll T a b && Tr.fitsB T t.1 t.2 x.1 x.2)
 | [],[],_=>by simp [Pk.fitAll]
 | [],_ :: _,h=>by simp at h
 | _ :: _,[],h=>by simp at h
 | s :: ss,y :: ys,h=>by
  simp only [List.cons_append,Pk.fitAll];rw [M8 T t x ss ys (by simpa using h),Bool.and_assoc]
theorem Rk (b:Pk.B):(Pk.take b).2.lo=b.lo:=by unfold Pk.take;split <;> rfl
theorem Pq (T:List Int) (t x:Int × Int) (b:Pk.B):(Pk.fit T t x b).lo=b.lo∧(Pk.fit T t x b).st=b.st∧(Pk.fit T t x b).br=(b.br || !Tr.fitsB T t.1 t.2 x.1 x.2):=by
 unfold Pk.fit;cases Tr.fitsB T t.1 t.2 x.1 x.2 <;> simp
theorem Rq {α:Type} (l:List α) (d:α) (h:l.length ≠ 0):l=l.take (l.length - 1) ++ [l.getD (l.length - 1) d]:=by
 have hk:l.length - 1 < l.length:=by omega
 have:=List.take_succ_eq_append_getElem hk;rw [show l.length - 1+1=l.length by omega,List.take_length] at this;rw [List.getD_eq_getElem?_getD,List.getElem?_eq_getElem hk];exact this
theorem Ni (T:List Int) (l:List (Int × Int)):∀ (k:Nat) (b:Pk.B),b.br=true→(Pk.takeTo T l k b).br=true
 | 0,b,h=>h
 | k+1,b,h=>by
  unfold Pk.takeTo;refine Ni T l k _ ?_;rw [(Pq _ _ _ _).2.2];have:(Pk.take b).2.br=true:=by unfold Pk.take;split <;> simp [h]
  rw [this];rfl
theorem Jy (T:List Int) (l:List (Int × Int)):∀ (k:Nat),k≤l.length→∀ (b:Pk.B),(Pk.takeTo T l k b).lo=b.lo ∧
  (k≤b.st.length→(Pk.takeTo T l k b).st=b.st.take (b.st.length - k)∧(Pk.takeTo T l k b).br=(b.br || !Pk.fitAll T (b.st.drop (b.st.length - k)) (l.take k))) ∧
  (b.st.length < k→(Pk.takeTo T l k b).br=true)
 | 0,_,b=>by
  refine ⟨rfl,fun _=>⟨?_,?_⟩,fun h=>by omega⟩
  ·simp [Pk.takeTo]
  ·simp [Pk.takeTo,Pk.fitAll]
 | k+1,hk,b=>by
  have hkl:k < l.length:=by omega
  unfold Pk.takeTo;obtain ⟨i1,i2,i3⟩:=Jy T l k (by omega) (Pk.fit T (Pk.take b).1 (l.getD k (0,0)) (Pk.take b).2);obtain ⟨f1,f2,f3⟩:=Pq T (Pk.take b).1 (l.getD k (0,0)) (Pk.take b).2;rw [f1,Rk] at i1;rw [f2,f3] at i2;rw [f2] at i3;by_cases h0:b.st.length=0
  ·refine ⟨i1,fun h=>by omega,fun _=>?_⟩;have e:Pk.take b=((0,0),⟨b.lo,b.st,true⟩):=by unfold Pk.take;rw [if_pos h0]
   refine Ni _ _ _ _ ?_;rw [f3,e];rfl
  ·have e:Pk.take b=(b.st.getD (b.st.length - 1) (0,0),⟨b.lo,b.st.take (b.st.length - 1),b.br⟩):=by unfold Pk.take;rw [if_neg h0]
   rw [e] at i1 i2 i3 ⊢;simp only at i1 i2 i3 ⊢;have hlen:(b.st.take (b.st.length - 1)).length=b.st.length - 1:=by simp
   rw [hlen] at i2 i3;refine ⟨i1,fun h=>?_,fun h=>i3 (by omega)⟩;obtain ⟨j1,j2⟩:=i2 (by omega);refine ⟨?_,?_⟩
   ·rw [j1,List.take_take]
    congr 1;omega
   ·rw [j2];have hs:=Rq b.st (0,0) h0;have hd:b.st.drop (b.st.length - (k+1))=(b.st.take (b.st.length - 1)).drop (b.st.length - 1 - k) ++ [b.st.getD (b.st.length - 1) (0,0)]:=by
     conv=>lhs;rw [hs]
     rw [List.length_append,hlen,List.drop_append_of_le_length (by rw [hlen];simp)]
     congr 2
     simp only [List.length_singleton];omega
    have hl:l.take (k+1)=l.take k ++ [l.getD k (0,0)]:=by
     rw [List.take_succ_eq_append_getElem hkl,List.getD_eq_getElem?_getD,List.getElem?_eq_getElem hkl];rfl
    rw [hd,hl,M8 _ _ _ _ _ (by simp;omega)];cases b.br <;> cases Pk.fitAll T (List.drop (b.st.length - 1 - k) (List.take (b.st.length - 1) b.st)) (List.take k l) <;> simp
theorem Je {T:List Int} (hT:Tr.Ok T) (l:List (Int × Int)) (b:Pk.B) (hb:∀ t∈b.st,Tr.Arg T t.1 t.2) (hl:∀ t∈l,Tr.Arg T t.1 t.2) :
  (Pk.takeAll T l b).lo=b.lo∧(Ck.top T b.st l=true→(Pk.takeAll T l b).st=b.st.take (b.st.length - l.length)∧(Pk.takeAll T l b).br=b.br)∧(Ck.top T b.st l=false→(Pk.takeAll T l b).br=true):=by
 obtain ⟨h1,h2,h3⟩:=Jy T l l.length (Nat.le_refl _) b;unfold Pk.takeAll Ck.top;refine ⟨h1,fun h=>?_,fun h=>?_⟩
 ·by_cases hn:b.st.length < l.length
  ·rw [if_pos hn] at h;cases h
  ·rw [if_neg hn,Dn hT _ _ (fun t ht=>hb t (List.mem_of_mem_drop ht)) hl] at h;obtain ⟨g1,g2⟩:=h2 (by omega);refine ⟨g1,?_⟩;rw [g2,List.take_length,h];simp
 ·by_cases hn:b.st.length < l.length
  ·exact h3 hn
  ·rw [if_neg hn,Dn hT _ _ (fun t ht=>hb t (List.mem_of_mem_drop ht)) hl] at h;obtain ⟨g1,g2⟩:=h2 (by omega);rw [g2,List.take_length,h];simp
theorem Ed {hi:Int}{t:Int × Int}{b:Pk.B} (h:b.br=true):(Pk.leave hi t b).br=true:=by unfold Pk.leave;split <;> simp [h]
theorem J5 {hi:Int}:∀ {l:List (Int × Int)}{b:Pk.B},b.br=true→(Pk.leaveAll hi l b).br=true
 | [],_,h=>h
 | _ :: r,_,h=>J5 (l:=r) (Ed h)
theorem Ro {b:Pk.B} (h:b.br=true):(Pk.take b).2.br=true:=by unfold Pk.take;split <;> simp [h]
theorem Hk {b:Pk.B} (h:b.br=true):Pk.out b=none:=by unfold Pk.out;rw [if_pos h]
theorem Aap {b:Pk.B} (h:b.br=false):Pk.out b=some ⟨b.lo,b.st⟩:=by unfold Pk.out;rw [h];rfl
theorem Bs (a b:Int × Int) (l:List (Int × Int)):(Ck.turned a b l).length=l.length:=by simp [Ck.turned]
theorem T5 {T:List Int} (hT:Tr.Ok T) (hi:Int) (tk lv want:List (Int × Int)) (isNew:Int→Bool) (arg:Int→Int) (p op n:Int) (x:Ck.Fr)
  (hs:∀ t∈x.stack,Tr.Arg T t.1 t.2) (htk:∀ t∈tk,Tr.Arg T t.1 t.2) (hwant:∀ t∈want,Tr.Arg T t.1 t.2) (hlv:lv.length≤1) (hhi:(x.stack.length:Int)≤hi)
  (hn:op=2∨op=3→0≤n∧n < (x.locals.length:Int)) (hnew:op=16→∀ t∈x.stack,t.1=4→(isNew t.2=true↔arg t.2=n)) :
  Pk.behind T hi tk lv want isNew p op n x=Ck.rule hi (Ck.movedL T tk lv want arg p op n x):=by
 unfold Pk.behind Pk.works Ck.movedL;by_cases h2:op=2
 ·rw [if_pos h2,if_pos h2];obtain ⟨a1,a2⟩:=hn (.inl h2);unfold Pk.load;rw [if_neg (by omega),if_neg (by simpa using a2)];by_cases h0:(x.locals.getD n.toNat (0,0)).1=0
  ·rw [if_pos h0,if_pos h0];rfl
  ·rw [if_neg h0,if_neg h0];unfold Pk.leave Ck.rule;by_cases hh:hi≤(x.stack.length:Int)
   ·rw [if_pos hh];simp [Pk.out];omega
   ·rw [if_neg hh];simp [Pk.out];omega
 rw [if_neg h2,if_neg h2];by_cases h3:op=3
 ·rw [if_pos h3,if_pos h3];obtain ⟨a1,a2⟩:=hn (.inr h3);unfold Pk.store;rw [if_neg (by omega),if_neg (by simpa using a2)];unfold Pk.take;by_cases hz:x.stack.length=0
  ·rw [if_pos (show x.stack.length < 1 by omega)];simp [hz,Pk.out,Ck.rule]
  ·rw [if_neg (show ¬ x.stack.length < 1 by omega)];simp only [hz,if_false];simp [Pk.out,Ck.rule];omega
 rw [if_neg h3,if_neg h3];by_cases h4:op=4
 ·rw [if_pos h4,if_pos h4];unfold Pk.take;by_cases hz:x.stack.length=0
  ·rw [if_pos (show x.stack.length < 1 by omega)];simp [hz,Pk.out,Ck.rule]
  ·rw [if_neg (show ¬ x.stack.length < 1 by omega)];simp only [hz,if_false];simp [Pk.out,Ck.rule];omega
 rw [if_neg h4,if_neg h4];by_cases h5:op=5
 ·rw [if_pos h5,if_pos h5];unfold Pk.dup Pk.take;by_cases hz:x.stack.length=0
  ·rw [if_pos (show x.stack.length < 1 by omega)];rw [Hk (Ed (Ed (by simp [hz])))];rfl
  ·rw [if_neg (show ¬ x.stack.length < 1 by omega)];simp only [hz,if_false];have hsn:=Rq x.stack (0,0) hz;have hdr:x.stack.drop (x.stack.length - 1)=[x.stack.getD (x.stack.length - 1) (0,0)]:=by
    conv=>lhs;rw [hsn]
    rw [List.drop_append_of_le_length (by simp)]
    simp
   rw [hdr];have e1:Pk.leave hi (x.stack.getD (x.stack.length - 1) (0,0)) ⟨x.locals,x.stack.take (x.stack.length - 1),false⟩=⟨x.locals,x.stack,false⟩:=by
    unfold Pk.leave;rw [if_neg (by simp;omega)];simp only [← hsn]
   rw [e1];unfold Pk.leave Ck.rule;by_cases hh:hi≤(x.stack.length:Int)
   ·rw [if_pos hh];simp [Pk.out];omega
   ·rw [if_neg hh];simp [Pk.out];omega
 rw [if_neg h5,if_neg h5];by_cases h6:op=6
 ·rw [if_pos h6,if_pos h6];unfold Pk.swap;by_cases hz:x.stack.length=0
  ·rw [if_pos (show x.stack.length < 2 by omega)];have:(Pk.take ⟨x.locals,x.stack,false⟩).2.br=true:=by unfold Pk.take;simp [hz]
   rw [Hk (Ed (Ed (Ro this)))];rfl
  ·have e1:Pk.take ⟨x.locals,x.stack,false⟩=(x.stack.getD (x.stack.length - 1) (0,0),⟨x.locals,x.stack.take (x.stack.length - 1),false⟩):=by unfold Pk.take;simp only [hz,if_false]
   rw [e1];simp only;by_cases hz1:x.stack.length < 2
   ·rw [if_pos hz1];have:(Pk.take ⟨x.locals,x.stack.take (x.stack.length - 1),false⟩).2.br=true:=by unfold Pk.take;rw [if_pos (by simp;omega)]
    rw [Hk (Ed (Ed this))];rfl
   ·rw [if_neg hz1];have e2:Pk.take ⟨x.locals,x.stack.take (x.stack.length - 1),false⟩=(x.stack.getD (x.stack.length - 2) (0,0),⟨x.locals,x.stack.take (x.stack.length - 2),false⟩):=by
     unfold Pk.take;rw [if_neg (by simp;omega)];simp only [List.length_take,List.take_take,List.getD_eq_getElem?_getD,List.getElem?_take];rw [show min (x.stack.length - 1) x.stack.length - 1=x.stack.length - 2 by omega,if_pos (by omega),show min (x.stack.length - 2) (x.stack.length - 1)=x.stack.length - 2 by omega]
    rw [e2];simp only;unfold Pk.leave;have l1:¬ hi≤((x.stack.take (x.stack.length - 2)).length:Int):=by simp;omega
    rw [if_neg l1];have l2:¬ hi≤((x.stack.take (x.stack.length - 2) ++ [x.stack.getD (x.stack.length - 1) (0,0)]).length:Int):=by simp;omega
    simp only [l2,if_false];simp [Pk.out,Ck.rule];omega
 rw [if_neg h6,if_neg h6];by_cases h15:op=15
 ·rw [if_pos h15,if_pos h15];unfold Pk.become Pk.leave Ck.rule;simp only [Bs];by_cases hh:hi≤(x.stack.length:Int)
  ·rw [if_pos hh];simp [Pk.out,Bs];omega
  ·rw [if_neg hh];simp [Pk.out,Bs];omega
 rw [if_neg h15,if_neg h15];by_cases h16:op=16
 ·rw [if_pos h16,if_pos h16];obtain ⟨g1,g2,g3⟩:=Je hT want ⟨x.locals,x.stack,false⟩ hs hwant;unfold Pk.set Ck.set;simp only at g1 g2 g3;cases htop:Ck.top T x.stack want with
  | false =>
   have:∀ t (b:Pk.B),b.br=true→Pk.out (Pk.setAt isNew n t b)=none:=by
    intro t b hb;unfold Pk.setAt Pk.become
    split
    ·rfl
    ·split
     ·rfl
     ·exact Hk hb
   rw [this _ _ (Ro (g3 htop))];simp [Ck.rule]
  | true =>
   obtain ⟨k1,k2⟩:=g2 htop;have hlw:want.length≤x.stack.length:=by
    unfold Ck.top at htop;by_cases h:x.stack.length < want.length
    ·rw [if_pos h] at htop;cases htop
    ·omega
   rw [if_neg (by simp)];generalize hb:Pk.takeAll T want ⟨x.locals,x.stack,false⟩=b at *;obtain ⟨blo,bst,bbr⟩:=b;simp only at g1 k1 k2;subst g1 k1 k2;by_cases hz:x.stack.length < want.length+1
   ·rw [if_pos hz];have e:Pk.take ⟨x.locals,x.stack.take (x.stack.length - want.length),false⟩=((0,0),⟨x.locals,x.stack.take (x.stack.length - want.length),true⟩):=by
     unfold Pk.take;rw [if_pos (by simp;omega)]
    rw [e];simp [Pk.setAt,Pk.out,Ck.rule]
   ·rw [if_neg hz];have hix:x.stack.length - want.length - 1 < x.stack.length:=by omega
    have e:Pk.take ⟨x.locals,x.stack.take (x.stack.length - want.length),false⟩=(x.stack.getD (x.stack.length - want.length - 1) (0,0),⟨x.locals,x.stack.take (x.stack.length - want.length - 1),false⟩):=by
     unfold Pk.take;rw [if_neg (by simp;omega)];simp only [List.length_take,List.take_take,List.getD_eq_getElem?_getD,List.getElem?_take];rw [show min (x.stack.length - want.length) x.stack.length - 1=x.stack.length - want.length - 1 by omega,if_pos (by omega),show min (x.stack.length - want.length - 1) (x.stack.length - want.length)=x.stack.length - want.length - 1 by omega]
    rw [e];simp only;have hm:x.stack.getD (x.stack.length - want.length - 1) (0,0)∈x.stack:=by
     rw [List.getD_eq_getElem?_getD,List.getElem?_eq_getElem hix];exact List.getElem_mem hix
    generalize x.stack.getD (x.stack.length - want.length - 1) (0,0)=t at *;unfold Pk.setAt;by_cases ht:t.1=4
    ·rw [if_neg (show ¬ t.1 ≠ 4 from fun g=>g ht),if_neg (show ¬ t.1 ≠ 4 from fun g=>g ht)];have hiff:=hnew h16 t hm ht;by_cases ha:arg t.2=n
     ·rw [hiff.2 ha,if_neg (by simp),if_neg (show ¬ arg t.2 ≠ n from fun g=>g ha)];unfold Pk.become Ck.rule;simp [Pk.out,Bs];omega
     ·have:isNew t.2=false:=by
       cases h:isNew t.2
       ·rfl
       ·exact absurd (hiff.1 h) ha
      rw [if_pos this,if_pos ha];rfl
    ·rw [if_pos ht,if_pos ht];rfl
 rw [if_neg h16,if_neg h16];obtain ⟨g1,g2,g3⟩:=Je hT tk ⟨x.locals,x.stack,false⟩ hs htk;simp only at g1 g2 g3;cases htop:Ck.top T x.stack tk with
 | false=>rw [if_pos rfl,Hk (J5 (g3 htop))];rfl
 | true =>
  obtain ⟨k1,k2⟩:=g2 htop;rw [if_neg (by simp)];generalize hb:Pk.takeAll T tk ⟨x.locals,x.stack,false⟩=b at *;obtain ⟨blo,bst,bbr⟩:=b;simp only at g1 k1 k2;subst g1 k1 k2
  match lv,hlv with
  | [],_ =>
   simp [Pk.leaveAll,Pk.out,Ck.rule];omega
  | [t],_ =>
   simp only [Pk.leaveAll,Pk.leave];by_cases hh:hi≤((x.stack.take (x.stack.length - tk.length)).length:Int)
   ·rw [if_pos hh];simp at hh;simp [Pk.out,Ck.rule];omega
   ·rw [if_neg hh];simp at hh;simp [Pk.out,Ck.rule];omega
end Go.Proofs.YtcefiamkoincoaaGreat
