/- a part of the proof in YtcefiamkoincoaaGreatFoundProof -/
import Derived.Test.YtcefiamkoincoaaGreatPk09
set_option maxRecDepth 100000
set_option maxHeartbeats 40000000
set_option linter.unusedVariables false
set_option linter.unusedSimpArgs false
namespace Go.Proofs.YtcefiamkoincoaaGreat
open Go.RowKit
variable {ya:Option Addr}{yn yc:Nat}
theorem N3 (T:List Int) (a:Option Addr) (cap:Nat) (k n:Int) (w:World) :
  Calls Tryz.prog 160 #[.agg #[.slice a T.length cap,.slice ya yn yc],.agg #[.int .i64 k,.int .i64 n]] w fun e w'=>e=.returned (.bool (Pf.resultMay T k n))∧Below w.heap.size w w':=by
 have hP:=fun w=>Ff (ya:=ya) (yn:=yn) (yc:=yc) T a cap k n w;unfold Pf.resultMay;generalize Tr.plainB T k n=P at *;have HP:=Ac hP;clear hP;by_cases h:k=0∧n=0
 ·rw [if_pos h];obtain ⟨rfl,rfl⟩:=h;go_enter Tryz.func160,Tryz.ntmps160;go_wp2;go_ret;exact ⟨rfl,Aj _ _ _⟩
 ·rw [if_neg h];by_cases hk:k=0
  ·subst hk;have hn:(n == 0)=false:=by simpa using h
   clear h;go_enter Tryz.func160,Tryz.ntmps160;go_wp2_with fail
   refine (Aa HP _).mono ?_;rintro e w1 ⟨rfl,hb1⟩;go_wp2;go_ret;exact ⟨rfl,(Aj _ _ _).trans (hb1.mono (by simp;omega))⟩
  ·have hn:(k == 0)=false:=by simpa using hk
   clear h hk;go_enter Tryz.func160,Tryz.ntmps160;go_wp2_with fail
   refine (Aa HP _).mono ?_;rintro e w1 ⟨rfl,hb1⟩;go_wp2;go_ret;exact ⟨rfl,(Aj _ _ _).trans (hb1.mono (by simp;omega))⟩
theorem Qg (T:List Int) (a:Option Addr) (cap bb:Nat) (m:PM) (x:Rd.Mth) (w:World) (hm:m.is x w bb) (hps:x.params.length≤1000) :
  Calls Tryz.prog 117 #[.agg #[.slice a T.length cap,.slice ya yn yc],m.val] w fun e w'=>e=.returned (.bool (Pf.headMay T x))∧Below w.heap.size w w':=by
 have hA:=fun w' (h:Below w.heap.size w w')=>Gq (ya:=ya) (yn:=yn) (yc:=yc) T a cap m.pa m.pl m.pc bb x.params w' hps (hm.below h).ps;have hR:=fun w=>N3 (ya:=ya) (yn:=yn) (yc:=yc) T a cap m.r1 m.r2 w;have hH:=fun w=>Mn (ya:=ya) (yn:=yn) (yc:=yc) T a cap m.cl w;generalize hr:Pf.headMay T x=R;unfold Pf.headMay at hr;rw [← hm.cl,← hm.nm,← hm.r1,← hm.r2,← hm.lo,← hm.pl] at hr;generalize Tr.allPlainB T x.params=A at *;clear hm hps;obtain ⟨cl,nm,pa,pl,pc,r1,r2,lo,st,ca,cn,cc,ha,hl,hc,ma,ml,mc⟩:=m;simp only [PM.val] at hA hR hH hr ⊢;generalize Pf.resultMay T r1 r2=B at *;generalize Tr.hasB T cl=K at *;have HA:=Ac hA;have HR:=Ac hR;have HH:=Ac hH;clear hA hR hH;have hB0:=Aj w (.cells #[.slice a T.length cap,.slice ya yn yc] 89) (.cells #[.int .i64 cl,.int .i64 nm,.slice pa pl pc,.int .i64 r1,.int .i64 r2,.int .i64 lo,.int .i64 st,.slice ca cn cc,.slice ha hl hc,.slice ma ml mc] 94);have CT0:=Ak w (.cells #[.slice a T.length cap,.slice ya yn yc] 89) (.cells #[.int .i64 cl,.int .i64 nm,.slice pa pl pc,.int .i64 r1,.int .i64 r2,.int .i64 lo,.int .i64 st,.slice ca cn cc,.slice ha hl hc,.slice ma ml mc] 94);have CM0:=Ah w (.cells #[.slice a T.length cap,.slice ya yn yc] 89) (.cells #[.int .i64 cl,.int .i64 nm,.slice pa pl pc,.int .i64 r1,.int .i64 r2,.int .i64 lo,.int .i64 st,.slice ca cn cc,.slice ha hl hc,.slice ma ml mc] 94);have hA0:=Ac (Aa HA _ hB0);clear HA;cases A with
 | false =>
  have HE:Hid (R=false):=by unfold Hid;rw [← hr];simp
  clear hr;go_enter Tryz.func117,Tryz.ntmps117;go_wp2_with fail
  refine (Aa hA0).mono ?_;rintro e w1 ⟨rfl,hb1⟩;go_wp2;go_ret;exact ⟨by rw [Aa HE];rfl,QB hB0 hb1⟩
 | true =>
  cases B with
  | false =>
   have HE:Hid (R=false):=by unfold Hid;rw [← hr];simp
   clear hr;go_enter Tryz.func117,Tryz.ntmps117;go_wp2_with fail
   refine (Aa hA0).mono ?_;rintro e w1 ⟨rfl,hb1⟩;have hB1:=QB hB0 hb1;have CT1:=stay hb1 CT0;have CM1:=stay hb1 CM0;obtain ⟨t0,t1⟩:=cl2 CT1;simp at t0 t1;obtain ⟨m0,m1,m2,m3,m4,m5,m6,m7,m8,m9⟩:=Db CM1;simp at m0 m1 m2 m3 m4 m5 m6 m7 m8 m9;go_wp2_with fail
   refine (Aa HR _).mono ?_;rintro e w2 ⟨rfl,hb2⟩;go_wp2;go_ret;exact ⟨by rw [Aa HE];rfl,QB hB1 hb2⟩
  | true =>
   have HRR:Hid ((if cl=255 then (if nm=0 then decide ((pl:Int)≤lo) else false) else if cl < 7 then false else if K=false then false else decide ((pl:Int) < lo))=R):=by unfold Hid;rw [← hr];simp
   clear hr;by_cases h1:cl=255
   ·subst h1;have hr:=Aa HRR;rw [if_pos rfl] at hr;clear HRR;by_cases h2:nm=0
    ·subst h2;rw [if_pos rfl] at hr;have HE:=Ac hr;clear hr;go_enter Tryz.func117,Tryz.ntmps117;go_wp2_with fail
     refine (Aa hA0).mono ?_;rintro e w1 ⟨rfl,hb1⟩;have hB1:=QB hB0 hb1;have CT1:=stay hb1 CT0;have CM1:=stay hb1 CM0;obtain ⟨t0,t1⟩:=cl2 CT1;simp at t0 t1;obtain ⟨m0,m1,m2,m3,m4,m5,m6,m7,m8,m9⟩:=Db CM1;simp at m0 m1 m2 m3 m4 m5 m6 m7 m8 m9;go_wp2_with fail
     refine (Aa HR _).mono ?_;rintro e w2 ⟨rfl,hb2⟩;have hB2:=QB hB1 hb2;have CM2:=stay hb2 CM1;clear m0 m1 m2 m3 m4 m5 m6 m7 m8 m9;obtain ⟨m0,m1,m2,m3,m4,m5,m6,m7,m8,m9⟩:=Db CM2;simp at m0 m1 m2 m3 m4 m5 m6 m7 m8 m9;go_wp2;go_ret;exact ⟨by rw [← Aa HE];rfl,hB2⟩
    ·rw [if_neg h2] at hr;have h2':(nm == 0)=false:=by simpa using h2
     have HE:=Ac hr;clear hr h2;go_enter Tryz.func117,Tryz.ntmps117;go_wp2_with fail
     refine (Aa hA0).mono ?_;rintro e w1 ⟨rfl,hb1⟩;have hB1:=QB hB0 hb1;have CT1:=stay hb1 CT0;have CM1:=stay hb1 CM0;obtain ⟨t0,t1⟩:=cl2 CT1;simp at t0 t1;obtain ⟨m0,m1,m2,m3,m4,m5,m6,m7,m8,m9⟩:=Db CM1;simp at m0 m1 m2 m3 m4 m5 m6 m7 m8 m9;go_wp2_with fail
     refine (Aa HR _).mono ?_;rintro e w2 ⟨rfl,hb2⟩;have hB2:=QB hB1 hb2;have CM2:=stay hb2 CM1;clear m0 m1 m2 m3 m4 m5 m6 m7 m8 m9;obtain ⟨m0,m1,m2,m3,m4,m5,m6,m7,m8,m9⟩:=Db CM2;simp at m0 m1 m2 m3 m4 m5 m6 m7 m8 m9;go_wp2;go_ret;exact ⟨by rw [← Aa HE];rfl,hB2⟩
   ·have hr:=Aa HRR;rw [if_neg h1] at hr;have h1':(cl == 255)=false:=by simpa using h1
    clear HRR h1;by_cases h2:cl < 7
    ·rw [if_pos h2] at hr;have HE:=Ac hr;clear hr;go_enter Tryz.func117,Tryz.ntmps117;go_wp2_with fail
     refine (Aa hA0).mono ?_;rintro e w1 ⟨rfl,hb1⟩;have hB1:=QB hB0 hb1;have CT1:=stay hb1 CT0;have CM1:=stay hb1 CM0;obtain ⟨t0,t1⟩:=cl2 CT1;simp at t0 t1;obtain ⟨m0,m1,m2,m3,m4,m5,m6,m7,m8,m9⟩:=Db CM1;simp at m0 m1 m2 m3 m4 m5 m6 m7 m8 m9;go_wp2_with fail
     refine (Aa HR _).mono ?_;rintro e w2 ⟨rfl,hb2⟩;have hB2:=QB hB1 hb2;have CM2:=stay hb2 CM1;clear m0 m1 m2 m3 m4 m5 m6 m7 m8 m9;obtain ⟨m0,m1,m2,m3,m4,m5,m6,m7,m8,m9⟩:=Db CM2;simp at m0 m1 m2 m3 m4 m5 m6 m7 m8 m9;go_wp2;go_ret;exact ⟨by rw [← Aa HE];rfl,hB2⟩
    ·rw [if_neg h2] at hr;cases K with
     | false =>
      rw [if_pos rfl] at hr;have HE:=Ac hr;clear hr;go_enter Tryz.func117,Tryz.ntmps117;go_wp2_with fail
      refine (Aa hA0).mono ?_;rintro e w1 ⟨rfl,hb1⟩;have hB1:=QB hB0 hb1;have CT1:=stay hb1 CT0;have CM1:=stay hb1 CM0;obtain ⟨t0,t1⟩:=cl2 CT1;simp at t0 t1;obtain ⟨m0,m1,m2,m3,m4,m5,m6,m7,m8,m9⟩:=Db CM1;simp at m0 m1 m2 m3 m4 m5 m6 m7 m8 m9;go_wp2_with fail
      refine (Aa HR _).mono ?_;rintro e w2 ⟨rfl,hb2⟩;have hB2:=QB hB1 hb2;have CM2:=stay hb2 CM1;have CT2:=stay hb2 CT1;clear m0 m1 m2 m3 m4 m5 m6 m7 m8 m9 t0 t1;obtain ⟨t0,t1⟩:=cl2 CT2;simp at t0 t1;obtain ⟨m0,m1,m2,m3,m4,m5,m6,m7,m8,m9⟩:=Db CM2;simp at m0 m1 m2 m3 m4 m5 m6 m7 m8 m9;go_wp2_with fail
      refine (Aa HH _).mono ?_;rintro e w3 ⟨rfl,hb3⟩;go_wp2;go_ret;exact ⟨by rw [← Aa HE];rfl,QB hB2 hb3⟩
     | true =>
      rw [if_neg (by simp)] at hr;have HE:=Ac hr;clear hr;go_enter Tryz.func117,Tryz.ntmps117;go_wp2_with fail
      refine (Aa hA0).mono ?_;rintro e w1 ⟨rfl,hb1⟩;have hB1:=QB hB0 hb1;have CT1:=stay hb1 CT0;have CM1:=stay hb1 CM0;obtain ⟨t0,t1⟩:=cl2 CT1;simp at t0 t1;obtain ⟨m0,m1,m2,m3,m4,m5,m6,m7,m8,m9⟩:=Db CM1;simp at m0 m1 m2 m3 m4 m5 m6 m7 m8 m9;go_wp2_with fail
      refine (Aa HR _).mono ?_;rintro e w2 ⟨rfl,hb2⟩;have hB2:=QB hB1 hb2;have CM2:=stay hb2 CM1;have CT2:=stay hb2 CT1;clear m0 m1 m2 m3 m4 m5 m6 m7 m8 m9 t0 t1;obtain ⟨t0,t1⟩:=cl2 CT2;simp at t0 t1;obtain ⟨m0,m1,m2,m3,m4,m5,m6,m7,m8,m9⟩:=Db CM2;simp at m0 m1 m2 m3 m4 m5 m6 m7 m8 m9;go_wp2_with fail
      refine (Aa HH _).mono ?_;rintro e w3 ⟨rfl,hb3⟩;have hB3:=QB hB2 hb3;have CM3:=stay hb3 CM2;clear m0 m1 m2 m3 m4 m5 m6 m7 m8 m9 t0 t1;obtain ⟨m0,m1,m2,m3,m4,m5,m6,m7,m8,m9⟩:=Db CM3;simp at m0 m1 m2 m3 m4 m5 m6 m7 m8 m9;go_wp2;go_ret;exact ⟨by rw [← Aa HE];rfl,hB3⟩
theorem Sr (es:List Rd.Mth) (ea:Option Addr) (ec:Nat) (m:PM) (x:Rd.Mth) (w:World) (hcl:m.cl=x.cl) (hnm:m.nm=x.name) (hel:es.length≤1000)
  (HM:∀ w',Below w.heap.size w w'→∀ k (hk:k < es.length),∃ (o:PM) (g:Nat),ea=some ⟨g,0,none⟩∧g < w'.heap.size∧(∀ j v,o.list[j]?=some v→w'.cell? ⟨g,k * 10+j,none⟩=some v)∧o.cl=es[k].cl∧o.nm=es[k].name) :
  Calls Tryz.prog 118 #[.slice ea es.length ec,m.val] w fun e w'=>e=.returned (.bool (Pf.isTwin es x))∧Below w.heap.size w w':=by
 generalize hr:Pf.isTwin es x=R;unfold Pf.isTwin at hr;rw [← hcl] at hr;have hTw:∀ o,Pf.twin x o=((o.cl == m.cl) && (o.name == m.nm)):=fun o=>by unfold Pf.twin;rw [hcl,hnm]
 obtain ⟨cl,nm,pa,pl,pc,r1,r2,lo,st,ca,cn,cc,ha,hl,hc,ma,ml,mc⟩:=m;simp only [PM.val] at hr hTw ⊢;have HM':=Ac HM;have HTW:=Ac hTw;have hB0:Below w.heap.size w (w.alloc (.cells #[.int .i64 cl,.int .i64 nm,.slice pa pl pc,.int .i64 r1,.int .i64 r2,.int .i64 lo,.int .i64 st,.slice ca cn cc,.slice ha hl hc,.slice ma ml mc] 94)):=(Below.refl _ _).alloc (Nat.le_refl _) _;have CM0:=Ad w (.cells #[.int .i64 cl,.int .i64 nm,.slice pa pl pc,.int .i64 r1,.int .i64 r2,.int .i64 lo,.int .i64 st,.slice ca cn cc,.slice ha hl hc,.slice ma ml mc] 94);clear HM hTw hcl hnm;by_cases h1:cl=255
 ·subst h1;rw [if_pos rfl] at hr;have HE:=Ac hr;clear hr;go_enter Tryz.func118,Tryz.ntmps118;go_wp2;go_ret;exact ⟨by rw [← Aa HE];rfl,hB0⟩
 ·rw [if_neg h1] at hr;have h1':(cl == 255)=false:=by simpa using h1
  have HR:Hid ((es.drop 0).any (Pf.twin x)=R):=hr;clear hr h1;go_enter Tryz.func118,Tryz.ntmps118;go_wp2
  go_loopw [12] (fun v wr=>∃ k:Nat,k≤es.length∧v=.int .i64 (k:Int)∧Hid ((es.drop k).any (Pf.twin x)=R)∧Below w.heap.size w wr∧wr.heap[w.heap.size]?=some (.cells #[.int .i64 cl,.int .i64 nm,.slice pa pl pc,.int .i64 r1,.int .i64 r2,.int .i64 lo,.int .i64 st,.slice ca cn cc,.slice ha hl hc,.slice ma ml mc] 94 (0,0)))
   (fun v _=>es.length - (intOf v).toNat)
  case atStart=>exact ⟨0,by omega,rfl,HR,hB0,CM0⟩
  case round =>
   clear HR hB0 CM0;obtain ⟨k,hk,rfl,HR,hB,CM⟩:=hrel;have hBs:=hB.size;have lM:=lt_of_block CM;obtain ⟨m0,m1⟩:=cl2 CM;simp at m0 m1;by_cases hkn:k < es.length
   ·obtain ⟨o,g,hg,hglt,hrow,e1,e2⟩:=Aa HM' _ hB k hkn;replace hrow:=Gz hrow;have hd:es.drop k=es[k] :: es.drop (k+1):=List.drop_eq_getElem_cons hkn;have hr:=Aa HR;rw [hd,List.any_cons,Aa HTW,← e1,← e2] at hr;obtain ⟨ocl,onm,opa,opl,opc,or1,or2,olo,ost,oca,ocn,occ,oha,ohl,ohc,oma,oml,omc⟩:=o;simp only at hrow hr;obtain ⟨y0,y1,y2,y3,y4,y5,y6,y7,y8,y9⟩:=hrow;have kb:(k:Int) < (es.length:Int):=by omega
    have hB1:=hB.alloc hBs (.cells #[.int .i64 ocl,.int .i64 onm,.slice opa opl opc,.int .i64 or1,.int .i64 or2,.int .i64 olo,.int .i64 ost,.slice oca ocn occ,.slice oha ohl ohc,.slice oma oml omc] 94);have CM1:=Af CM (.cells #[.int .i64 ocl,.int .i64 onm,.slice opa opl opc,.int .i64 or1,.int .i64 or2,.int .i64 olo,.int .i64 ost,.slice oca ocn occ,.slice oha ohl ohc,.slice oma oml omc] 94);clear hd e1 e2 HR;subst hg;by_cases h2:ocl=cl
    ·subst h2;by_cases h3:onm=nm
     ·subst h3;have HE:Hid (R=true):=by unfold Hid;rw [← hr];simp
      clear hr;go_wp2;go_ret;exact ⟨by rw [Aa HE];rfl,hB1⟩
     ·have HG:Hid ((es.drop (k+1)).any (Pf.twin x)=R):=by unfold Hid;rw [← hr];simp [h3]
      have h3':(onm == nm)=false:=by simpa using h3
      clear hr h3;go_wp2
      go_roundw
      case rel=>exact ⟨k+1,by omega,by go_num,HG,hB1,CM1⟩
      case measure=>simp [intOf];omega
    ·have HG:Hid ((es.drop (k+1)).any (Pf.twin x)=R):=by unfold Hid;rw [← hr];simp [h2]
     have h2':(ocl == cl)=false:=by simpa using h2
     clear hr h2;go_wp2
     go_roundw
     case rel=>exact ⟨k+1,by omega,by go_num,HG,hB1,CM1⟩
     case measure=>simp [intOf];omega
   ·have HE:Hid (R=false):=by unfold Hid;rw [← Aa HR,List.drop_eq_nil_of_le (by omega)];rfl
    have kb:¬ (k:Int) < (es.length:Int):=by omega
    clear HR;go_wp2;go_ret;exact ⟨by rw [Aa HE];rfl,hB⟩
theorem O6 (o m:PM) (y x:Rd.Mth) (bb:Nat) (w:World) (ho:o.is y w bb) (hm:m.is x w bb) (hly:y.params.length≤1000) (_hlx:x.params.length≤1000) :
  Calls Tryz.prog 162 #[o.val,m.val] w fun e w'=>e=.returned (.bool (Pf.sameCall y x))∧Below w.heap.size w w':=by
 generalize hr:Pf.sameCall y x=R;unfold Pf.sameCall at hr;have hy:y.result=(o.r1,o.r2):=by rw [ho.r1,ho.r2]
 have hx:x.result=(m.r1,m.r2):=by rw [hm.r1,hm.r2]
 rw [hy,hx] at hr;have HPO:∀ w',Below w.heap.size w w'→TysAt w' bb (.slice o.pa o.pl o.pc) y.params:=fun w' h=>(ho.below h).ps;have HPM:∀ w',Below w.heap.size w w'→TysAt w' bb (.slice m.pa m.pl m.pc) x.params:=fun w' h=>(hm.below h).ps;have eo:=ho.pl;have em:=hm.pl;clear hy hx ho hm;generalize y.params=A at *;generalize x.params=B at *;obtain ⟨ocl,onm,opa,opl,opc,or1,or2,olo,ost,oca,ocn,occ,oha,ohl,ohc,oma,oml,omc⟩:=o;obtain ⟨cl,nm,pa,pl,pc,r1,r2,lo,st,ca,cn,cc,ha,hl,hc,ma,ml,mc⟩:=m;simp only at eo em;subst eo em;simp only [PM.val] at hr HPO HPM ⊢;have HO:=Ac HPO;have HM:=Ac HPM;have hB0:=Aj w (.cells #[.int .i64 ocl,.int .i64 onm,.slice opa A.length opc,.int .i64 or1,.int .i64 or2,.int .i64 olo,.int .i64 ost,.slice oca ocn occ,.slice oha ohl ohc,.slice oma oml omc] 94) (.cells #[.int .i64 cl,.int .i64 nm,.slice pa B.length pc,.int .i64 r1,.int .i64 r2,.int .i64 lo,.int .i64 st,.slice ca cn cc,.slice ha hl hc,.slice ma ml mc] 94);have CO0:=Ak w (.cells #[.int .i64 ocl,.int .i64 onm,.slice opa A.length opc,.int .i64 or1,.int .i64 or2,.int .i64 olo,.int .i64 ost,.slice oca ocn occ,.slice oha ohl ohc,.slice oma oml omc] 94) (.cells #[.int .i64 cl,.int .i64 nm,.slice pa B.length pc,.int .i64 r1,.int .i64 r2,.int .i64 lo,.int .i64 st,.slice ca cn cc,.slice ha hl hc,.slice ma ml mc] 94);have CM0:=Ah w (.cells #[.int .i64 ocl,.int .i64 onm,.slice opa A.length opc,.int .i64 or1,.int .i64 or2,.int .i64 olo,.int .i64 ost,.slice oca ocn occ,.slice oha ohl ohc,.slice oma oml omc] 94) (.cells #[.int .i64 cl,.int .i64 nm,.slice pa B.length pc,.int .i64 r1,.int .i64 r2,.int .i64 lo,.int .i64 st,.slice ca cn cc,.slice ha hl hc,.slice ma ml mc] 94);clear HPO HPM;by_cases h1:or1=r1∧or2=r2
 ·rw [if_neg (by simp [h1])] at hr;obtain ⟨rfl,rfl⟩:=h1;by_cases h2:A.length=B.length
  ·have HR:Hid (decide (A.drop 0=B.drop 0)=R):=hr;have h2':((A.length:Int) != (B.length:Int))=false:=by simp [h2]
   have le1:A.length≤B.length:=by omega
   have le2:B.length≤A.length:=by omega
   clear hr h2;go_enter Tryz.func162,Tryz.ntmps162;go_wp2
   go_loopw [24] (fun v wr=>∃ k:Nat,k≤A.length∧v=.int .i64 (k:Int)∧Hid (decide (A.drop k=B.drop k)=R)∧Below w.heap.size w wr∧wr.heap[w.heap.size+1]?=some (.cells #[.int .i64 cl,.int .i64 nm,.slice pa B.length pc,.int .i64 or1,.int .i64 or2,.int .i64 lo,.int .i64 st,.slice ca cn cc,.slice ha hl hc,.slice ma ml mc] 94 (0,0)))
    (fun v _=>A.length - (intOf v).toNat)
   case atStart=>exact ⟨0,by omega,rfl,HR,hB0,CM0⟩
   case round =>
    clear HR hB0 CM0 CO0;obtain ⟨k,hk,rfl,HR,hB,CM⟩:=hrel;have hBs:=hB.size;have lM:=lt_of_block CM;have m2:=Ab CM 2;simp at m2;by_cases hkn:k < A.length
    ·have hkb:k < B.length:=by omega
     obtain ⟨ga,hga,hgalt,_,hca⟩:=Am (Aa HO _ hB) (by omega);obtain ⟨gb,hgb,hgblt,_,hcb⟩:=Am (Aa HM _ hB) (by omega);obtain ⟨a1,a2,a3⟩:=Bd A k hkn;obtain ⟨b1,b2,b3⟩:=Bd B k hkb;have x0:=(hca (k * 2) (by omega)).trans a1;have x1:=(hca (k * 2+1) (by omega)).trans a2;have y0:=(hcb (k * 2) (by omega)).trans b1;have y1:=(hcb (k * 2+1) (by omega)).trans b2;have hr:=Aa HR;rw [Im hkn hkb] at hr;have kb:(k:Int) < (A.length:Int):=by omega
     have kb2:(k:Int) < (B.length:Int):=by omega
     have kb3:decide ((B.length:Int)≤(k:Int))=false:=by simp;omega
     generalize A[k]=p at *;generalize B[k]=q at *;obtain ⟨p1,p2⟩:=p;obtain ⟨q1,q2⟩:=q;simp only at x0 x1 y0 y1;have hB1:=hB.alloc hBs (.cells #[.int .i64 p1,.int .i64 p2] 39);have CM1:=Af CM (.cells #[.int .i64 p1,.int .i64 p2] 39);have hnn:¬ ((B.length:Int)≤(k:Int)):=by omega
     clear hca hcb a1 a2 a3 b1 b2 b3 HR;subst hga hgb;by_cases h3:p1=q1∧p2=q2
     ·obtain ⟨rfl,rfl⟩:=h3;have HG:Hid (decide (A.drop (k+1)=B.drop (k+1))=R):=by unfold Hid;rw [← hr];simp
      clear hr;go_wp2_with (go_quiet (fail))
      go_wp2
      go_roundw
      case rel=>exact ⟨k+1,by omega,by go_num,HG,⟨hB1.os,hB1.tape,hB1.output,hB1.size,hB1.block⟩,CM1⟩
      case measure=>simp [intOf];omega
     ·have HE:Hid (R=false):=by
       unfold Hid;have:decide ((p1,p2)=(q1,q2))=false:=by simpa using h3
       rw [← hr,this];rfl
      clear hr;by_cases h4:q1=p1
      ·subst h4;have h5:(q2 == p2)=false:=by
        have:¬ q2=p2:=fun h=>h3 ⟨rfl,h.symm⟩
        simpa using this
       clear h3;go_wp2_with (go_quiet (fail))
       go_wp2;go_ret;exact ⟨by rw [Aa HE];rfl,⟨hB1.os,hB1.tape,hB1.output,hB1.size,hB1.block⟩⟩
      ·have h5:(q1 == p1)=false:=by simpa using h4
       clear h3 h4;go_wp2_with (go_quiet (fail))
       go_wp2;go_ret;exact ⟨by rw [Aa HE];rfl,⟨hB1.os,hB1.tape,hB1.output,hB1.size,hB1.block⟩⟩
    ·have HE:Hid (R=true):=by unfold Hid;rw [← Aa HR,List.drop_eq_nil_of_le (by omega),List.drop_eq_nil_of_le (by omega)];rfl
     have kb:¬ (k:Int) < (A.length:Int):=by omega
     clear HR;go_wp2;go_ret;exact ⟨by rw [Aa HE];rfl,hB⟩
  ·have HE:Hid (R=false):=by
    unfold Hid;rw [← hr];simp only [decide_eq_false_iff_not];intro h;exact h2 (by rw [h])
   have h2':((A.length:Int) != (B.length:Int))=true:=by simp;omega
   clear hr h2;go_enter Tryz.func162,Tryz.ntmps162;go_wp2;go_ret;exact ⟨by rw [Aa HE];rfl,hB0⟩
 ·rw [if_pos (by simpa using h1)] at hr;have HE:=Ac hr;clear hr;by_cases h4:or1=r1
  ·subst h4;have h5:(or2 == r2)=false:=by
    have:¬ or2=r2:=fun h=>h1 ⟨rfl,h⟩
    simpa using this
   clear h1;go_enter Tryz.func162,Tryz.ntmps162;go_wp2;go_ret;exact ⟨by rw [← Aa HE];rfl,hB0⟩
  ·have h5:(or1 == r1)=false:=by simpa using h4
   clear h1 h4;go_enter Tryz.func162,Tryz.ntmps162;go_wp2;go_ret;exact ⟨by rw [← Aa HE];rfl,hB0⟩
variable {ya:Option Addr}{yn yc:Nat}
theorem Mk (fa1 fa2:Option Addr) (fl1 fc1 fc2:Nat) (lms:List (Rd.Mth × MthV)) (T:List Int) (tg cap bb:Nat) (m:PM) (x:Rd.Mth) (w:World) (hm:m.is x w bb) (hT:T.length≤1000) (hTr:TreeIn w tg T)
  (hm6:lms.length≤6) (hms:MthsIn w bb (.slice fa2 lms.length fc2) lms) (hpx:x.params.length≤1000) (hpl:∀ p∈lms,p.1.params.length≤1000) :
  Calls Tryz.prog 119 #[.agg #[.slice fa1 fl1 fc1,.slice fa2 lms.length fc2],.agg #[.slice (some ⟨tg,0,none⟩) T.length cap,.slice ya yn yc],m.val] w fun e w'=>e=.returned (.bool (Pf.breaksHeir T (lms.map Prod.fst) x))∧Below w.heap.size w w':=by
 generalize hr:Pf.breaksHeir T (lms.map Prod.fst) x=R;unfold Pf.breaksHeir at hr;rw [← hm.cl] at hr;have hBr:∀ o,Pf.breaks T x o=((o.name == m.nm) && (Tr.below T m.cl o.cl && !Pf.sameCall o x)):=fun o=>by unfold Pf.breaks;rw [hm.cl,hm.nm]
 have hBl:=fun h w' (hb:Below w.heap.size w w')=>Il (ya:=ya) (yn:=yn) (yc:=yc) T tg cap m.cl h w' hT (hTr.below hb);have hSC:=fun (o:PM) (y:Rd.Mth) w' (hb:Below w.heap.size w w') (ho:o.is y w' bb) hy=>O6 o m y x bb w' ho (hm.below hb) hy hpx;have HMS:∀ w',Below w.heap.size w w'→MthsIn w' bb (.slice fa2 lms.length fc2) lms:=fun w' h=>hms.kp (Kp.of_below (e:=none) h) (by decide) (by decide) (by decide) (by decide) (by decide);clear hm hms hTr;obtain ⟨cl,nm,pa,pl,pc,r1,r2,lo,st,ca,cn,cc,ha,hl,hc,ma,ml,mc⟩:=m;simp only [PM.val] at hr hBr hBl hSC ⊢;have HBR:=Ac hBr;have HBL:=Ac hBl;have HSC:=Ac hSC;have HM':=Ac HMS;have HPL:=Ac hpl;have hB0:=Ba w (.cells #[.slice fa1 fl1 fc1,.slice fa2 lms.length fc2] 63) (.cells #[.slice (some ⟨tg,0,none⟩) T.length cap,.slice ya yn yc] 89) (.cells #[.int .i64 cl,.int .i64 nm,.slice pa pl pc,.int .i64 r1,.int .i64 r2,.int .i64 lo,.int .i64 st,.slice ca cn cc,.slice ha hl hc,.slice ma ml mc] 94);have C0:=Eo w (.cells #[.slice fa1 fl1 fc1,.slice fa2 lms.length fc2] 63) (.cells #[.slice (some ⟨tg,0,none⟩) T.length cap,.slice ya yn yc] 89) (.cells #[.int .i64 cl,.int .i64 nm,.slice pa pl pc,.int .i64 r1,.int .i64 r2,.int .i64 lo,.int .i64 st,.slice ca cn cc,.slice ha hl hc,.slice ma ml mc] 94);clear hBr hBl hSC HMS hpl;by_cases h1:cl=255
 ·subst h1;rw [if_pos rfl] at hr;have HE:=Ac hr;clear hr;go_enter Tryz.func119,Tryz.ntmps119;go_wp2;go_ret;exact ⟨by rw [← Aa HE];rfl,hB0⟩
 ·rw [if_neg h1] at hr;have h1':(cl == 255)=false:=by simpa using h1
  have HR:Hid (((lms.map Prod.fst).drop 0).any (Pf.breaks T x)=R):=hr;clear hr h1;go_enter Tryz.func119,Tryz.ntmps119;go_wp2
  go_loopw [15] (fun v wr=>∃ k:Nat,k≤lms.length∧v=.int .i64 (k:Int)∧Hid (((lms.map Prod.fst).drop k).any (Pf.breaks T x)=R)∧Below w.heap.size w wr∧wr.heap[w.heap.size+1]?=some (.cells #[.slice (some ⟨tg,0,none⟩) T.length cap,.slice ya yn yc] 89 (0,0))∧wr.heap[w.heap.size+1+1]?=some (.cells #[.int .i64 cl,.int .i64 nm,.slice pa pl pc,.int .i64 r1,.int .i64 r2,.int .i64 lo,.int .i64 st,.slice ca cn cc,.slice ha hl hc,.slice ma ml mc] 94 (0,0)))
   (fun v _=>lms.length - (intOf v).toNat)
  case atStart=>exact ⟨0,by omega,rfl,HR,hB0,C0.2.1,C0.2.2⟩
  case round =>
   clear HR hB0 C0;obtain ⟨k,hk,rfl,HR,hB,CT,CM⟩:=hrel;have hBs:=hB.size;have lT:=lt_of_block CT;have lM:=lt_of_block CM;obtain ⟨m0,m1,m2,m3,m4,m5,m6,m7,m8,m9⟩:=Db CM;simp at m0 m1 m2 m3 m4 m5 m6 m7 m8 m9;obtain ⟨t0,t1⟩:=cl2 CT;simp at t0 t1;by_cases hkn:k < lms.length
   ·obtain ⟨o,g,hg,hglt,hrow,his⟩:=(Aa HM' _ hB).mth hkn;replace hrow:=Gz hrow;have hpo:=Aa HPL _ (List.getElem_mem hkn);have hd:(lms.map Prod.fst).drop k=lms[k].1 :: (lms.map Prod.fst).drop (k+1):=by
     rw [List.drop_eq_getElem_cons (by simpa using hkn)]
     simp
    have hr:=Aa HR;rw [hd,List.any_cons,Aa HBR,← his.cl,← his.nm] at hr;generalize lms[k].1=y at *;have hBx:Below wr.heap.size wr (wr.alloc (.cells #[.int .i64 o.cl,.int .i64 o.nm,.slice o.pa o.pl o.pc,.int .i64 o.r1,.int .i64 o.r2,.int .i64 o.lo,.int .i64 o.st,.slice o.ca o.cn o.cc,.slice o.ha o.hl o.hc,.slice o.ma o.ml o.mc] 94)):=(Below.refl _ _).alloc (Nat.le_refl _) _;have HIS:∀ w',Below wr.heap.size wr w'→o.is y w' bb:=fun w' h=>his.below h;have hsc:=fun w' (h1:Below w.heap.size w w') (h2:Below wr.heap.size wr w')=>Aa HSC o y w' h1 (HIS w' h2) hpo;have hbl:=fun w' (h1:Below w.heap.size w w')=>Aa HBL o.cl w' h1;clear his HIS;obtain ⟨ocl,onm,opa,opl,opc,or1,or2,olo,ost,oca,ocn,occ,oha,ohl,ohc,oma,oml,omc⟩:=o;simp only at hrow hr hsc hbl hBx;obtain ⟨y0,y1,y2,y3,y4,y5,y6,y7,y8,y9⟩:=hrow;generalize Pf.sameCall y x=SC at *;generalize Tr.below T cl ocl=BL at *;have HSC2:=Ac hsc;have HBL2:=Ac hbl;have kb:(k:Int) < (lms.length:Int):=by omega
    have hB1:=hB.alloc hBs (.cells #[.int .i64 ocl,.int .i64 onm,.slice opa opl opc,.int .i64 or1,.int .i64 or2,.int .i64 olo,.int .i64 ost,.slice oca ocn occ,.slice oha ohl ohc,.slice oma oml omc] 94);have CM1:=Af CM (.cells #[.int .i64 ocl,.int .i64 onm,.slice opa opl opc,.int .i64 or1,.int .i64 or2,.int .i64 olo,.int .i64 ost,.slice oca ocn occ,.slice oha ohl ohc,.slice oma oml omc] 94);have CT1:=Af CT (.cells #[.int .i64 ocl,.int .i64 onm,.slice opa opl opc,.int .i64 or1,.int .i64 or2,.int .i64 olo,.int .i64 ost,.slice oca ocn occ,.slice oha ohl ohc,.slice oma oml omc] 94);have CO1:=Ad wr (.cells #[.int .i64 ocl,.int .i64 onm,.slice opa opl opc,.int .i64 or1,.int .i64 or2,.int .i64 olo,.int .i64 ost,.slice oca ocn occ,.slice oha ohl ohc,.slice oma oml omc] 94);clear hd HR hsc hbl;subst hg;by_cases h3:onm=nm
    ·subst h3;cases BL with
     | false =>
      have HG:Hid (((lms.map Prod.fst).drop (k+1)).any (Pf.breaks T x)=R):=by unfold Hid;rw [← hr];simp
      clear hr;go_wp2_with fail
      refine (Aa HBL2 _ hB1).mono ?_;rintro e w2 ⟨rfl,hb2⟩;have hB2:=QB hB1 hb2;have CM2:=stay hb2 CM1;have CT2:=stay hb2 CT1;clear m0 m1 m2 m3 m4 m5 m6 m7 m8 m9 t0 t1 y0 y1 y2 y3 y4 y5 y6 y7 y8 y9 CM CT;go_wp2
      go_roundw
      case rel=>exact ⟨k+1,by omega,by go_num,HG,hB2,CT2,CM2⟩
      case measure=>simp [intOf];omega
     | true =>
      cases SC with
      | false =>
       have HE:Hid (R=true):=by unfold Hid;rw [← hr];simp
       clear hr;go_wp2_with fail
       refine (Aa HBL2 _ hB1).mono ?_;rintro e w2 ⟨rfl,hb2⟩;have hB2:=QB hB1 hb2;have hX2:=QB hBx hb2;have CM2:=stay hb2 CM1;have CO2:=stay hb2 CO1;clear m0 m1 m2 m3 m4 m5 m6 m7 m8 m9 t0 t1 y0 y1 y2 y3 y4 y5 y6 y7 y8 y9 CM CT;obtain ⟨m0,m1,m2,m3,m4,m5,m6,m7,m8,m9⟩:=Db CM2;simp at m0 m1 m2 m3 m4 m5 m6 m7 m8 m9;obtain ⟨o0,o1,o2,o3,o4,o5,o6,o7,o8,o9⟩:=Db CO2;simp at o0 o1 o2 o3 o4 o5 o6 o7 o8 o9;go_wp2_with fail
       refine (Aa HSC2 _ hB2 hX2).mono ?_;rintro e w3 ⟨rfl,hb3⟩;go_wp2;go_ret;exact ⟨by rw [Aa HE];rfl,QB hB2 hb3⟩
      | true =>
       have HG:Hid (((lms.map Prod.fst).drop (k+1)).any (Pf.breaks T x)=R):=by unfold Hid;rw [← hr];simp
       clear hr;go_wp2_with fail
       refine (Aa HBL2 _ hB1).mono ?_;rintro e w2 ⟨rfl,hb2⟩;have hB2:=QB hB1 hb2;have hX2:=QB hBx hb2;have CM2:=stay hb2 CM1;have CT2:=stay hb2 CT1;have CO2:=stay hb2 CO1;clear m0 m1 m2 m3 m4 m5 m6 m7 m8 m9 t0 t1 y0 y1 y2 y3 y4 y5 y6 y7 y8 y9 CM CT;obtain ⟨m0,m1,m2,m3,m4,m5,m6,m7,m8,m9⟩:=Db CM2;simp at m0 m1 m2 m3 m4 m5 m6 m7 m8 m9;obtain ⟨o0,o1,o2,o3,o4,o5,o6,o7,o8,o9⟩:=Db CO2;simp at o0 o1 o2 o3 o4 o5 o6 o7 o8 o9;go_wp2_with fail
       refine (Aa HSC2 _ hB2 hX2).mono ?_;rintro e w3 ⟨rfl,hb3⟩;have hB3:=QB hB2 hb3;have CM3:=stay hb3 CM2;have CT3:=stay hb3 CT2;clear m0 m1 m2 m3 m4 m5 m6 m7 m8 m9 o0 o1 o2 o3 o4 o5 o6 o7 o8 o9;go_wp2
       go_roundw
       case rel=>exact ⟨k+1,by omega,by go_num,HG,hB3,CT3,CM3⟩
       case measure=>simp [intOf];omega
    ·have HG:Hid (((lms.map Prod.fst).drop (k+1)).any (Pf.breaks T x)=R):=by unfold Hid;rw [← hr];simp [h3]
     have h3':(onm == nm)=false:=by simpa using h3
     clear hr h3;go_wp2
     go_roundw
     case rel=>exact ⟨k+1,by omega,by go_num,HG,hB1,CT1,CM1⟩
     case measure=>simp [intOf];omega
   ·have HE:Hid (R=false):=by unfold Hid;rw [← Aa HR,List.drop_eq_nil_of_le (by simp;omega)];rfl
    have kb:¬ (k:Int) < (lms.length:Int):=by omega
    clear HR;go_wp2;go_ret;exact ⟨by rw [Aa HE];rfl,hB⟩
theorem Vu (c:List Int):∀ x∈Cd.insts c,0≤x.place:=by
 intro x hx;unfold Cd.insts at hx;simp only [List.mem_map] at hx;obtain ⟨p,_,rfl⟩:=hx;exact Int.natCast_nonneg p
theorem Se (c:List Int) (k p:Nat):(Cd.starts c k p).length≤k:=by
 induction k generalizing p with
 | zero=>simp [Cd.starts]
 | succ j ih =>
  unfold Cd.starts
  split
  ·simp;exact ih _
  ·simp
theorem It (c:List Int):(Cd.insts c).length≤c.length:=by
 unfold Cd.insts Cd.places;rw [List.length_map];exact Se _ _ _
theorem Tk (fa1 fa2:Option Addr) (fc1 fc2 tg tc:Nat) (ya:Option Addr) (yn yc:Nat) (cl nm:Int) (pa:Option Addr) (pl pc:Nat) (r1 r2 st:Int) (ca ha ma:Option Addr) (cc hc mc:Nat) (T:List Int)
  (bm:Nat) (lcs:List (Rd.Cls × Value)) (lms:List (Rd.Mth × MthV)) (m:Rd.Mth) (lmp:List (Rd.Mp × Value × Value)) (w:World)
  (hT:T.length≤1000) (hTr:TreeIn w tg T) (hm6:lms.length≤6) (hc6:lcs.length≤6) (hcf:∀ p∈lcs,p.1.fields.length≤1000)
  (hcs:ClssIn w bm (.slice fa1 lcs.length fc1) lcs) (hms:MthsIn w bm (.slice fa2 lms.length fc2) lms) (hbd:Pf.MBd m) (hmm:lmp.map Prod.fst=m.maps)
  (hco:IntsAt w bm (.slice ca m.code.length cc) m.code) (hha:HndsAt w bm (.slice ha m.handlers.length hc) m.handlers) (hmp:MpsIn w bm (.slice ma lmp.length mc) lmp) :
  Calls Tryz.prog 120 #[PBd.val ⟨fa1,lcs.length,fc1,fa2,lms.length,fc2,tg,tc,ya,yn,yc,cl,nm,pa,pl,pc,r1,r2,m.locals,st,ca,m.code.length,cc,ha,m.handlers.length,hc,ma,lmp.length,mc,none,0,T,[]⟩] w fun e w' =>
   e=.returned (.agg #[.int .i64 (Pf.body T (Cd.fieldSum (lcs.map Prod.fst):Int) (lms.map fun p=>p.1.cl) m).1,.int .i64 0,.int .i64 (Pf.body T (Cd.fieldSum (lcs.map Prod.fst):Int) (lms.map fun p=>p.1.cl) m).2])∧Below w.heap.size w w':=by
 have hlm:lmp.length≤64:=by have:=congrArg List.length hmm;simp only [List.length_map] at this;rw [this];exact hbd.mp
 have hfr:∀ p∈lmp,p.1.locals.length≤1000∧p.1.stack.length≤1000∧-1000≤p.1.place∧p.1.place≤1000:=by
  intro p hp;have:=hbd.fr p.1 (by rw [← hmm];exact List.mem_map_of_mem hp);omega
 have hcl:=hbd.code;have hhl:=hbd.hs;have hRd:=fun w' (h:Below w.heap.size w w')=>Iw m.code ca cc bm w' (by omega) hbd.code0 (hco.kp (Kp.of_below (e:=none) h) (by decide));generalize hL:Cd.insts m.code=L;have hLl:L.length≤120:=by rw [← hL];have:=It m.code;omega
 have hLp:∀ x∈L,0≤x.place:=by rw [← hL];exact Vu _
 have hI:=fun va vc bb p op n w' (h:Below w.heap.size w w') (hi:InsAt w' bb (.slice va L.length vc) L) =>
  V4 ⟨fa1,lcs.length,fc1,fa2,lms.length,fc2,tg,tc,ya,yn,yc,cl,nm,pa,pl,pc,r1,r2,m.locals,st,ca,m.code.length,cc,ha,m.handlers.length,hc,ma,lmp.length,mc,va,vc,T,L⟩ bb bm lcs lms p op n w' ⟨hT,by simp only;omega,hTr.below h,hi⟩ rfl rfl (by omega) hc6 hcf (hcs.kp (Kp.of_below (e:=none) h) (by decide) (by decide)) (hms.kp (Kp.of_below (e:=none) h) (by decide) (by decide) (by decide) (by decide) (by decide))
 have hH:=fun va vc bb x w' (h:Below w.heap.size w w') (hi:InsAt w' bb (.slice va L.length vc) L)=>Sy ⟨fa1,lcs.length,fc1,fa2,lms.length,fc2,tg,tc,ya,yn,yc,cl,nm,pa,pl,pc,r1,r2,m.locals,st,ca,m.code.length,cc,ha,m.handlers.length,hc,ma,lmp.length,mc,va,vc,T,L⟩ bb x w' ⟨hT,by simp only;omega,hTr.below h,hi⟩;have hM:=fun va vc bb w' (h:Below w.heap.size w w') (hi:InsAt w' bb (.slice va L.length vc) L) =>
  Rx ⟨fa1,lcs.length,fc1,fa2,lms.length,fc2,tg,tc,ya,yn,yc,cl,nm,pa,pl,pc,r1,r2,m.locals,st,ca,m.code.length,cc,ha,m.handlers.length,hc,ma,lmp.length,mc,va,vc,T,L⟩ bb bm lmp w' ⟨hT,by simp only;omega,hTr.below h,hi⟩ rfl (by omega) hfr (hmp.kp (Kp.of_below (e:=none) h) (by decide) (by decide))
 have HHA:∀ w',Below w.heap.size w w'→HndsAt w' bm (.slice ha m.handlers.length hc) m.handlers:=fun w' h=>hha.kp (Kp.of_below (e:=none) h) (by decide);unfold Cd.readL Cd.readP Cd.readB at hRd;unfold Pf.body;rw [hL] at hRd ⊢;rw [hmm] at hM;simp only [PBd.val] at hI hH hM ⊢;generalize (Cd.fieldSum (lcs.map Prod.fst):Int)=nf at *;generalize (lms.map fun p=>p.1.cl)=ow at *;have hBI:∀ x,Pf.badI T nf ow m.locals L x = !Cd.argP T nf ow m.locals L x.op x.n:=fun x=>rfl;have hBH:∀ x,Pf.badH T L (m.code.length:Int) x = !Cd.hndMay T L (m.code.length:Int) x:=fun x=>rfl;generalize hq1:Pf.firstI (Pf.badI T nf ow m.locals L) L=q1;generalize hq2:Cd.firstIx (Pf.badH T L (m.code.length:Int)) 0 m.handlers=q2;generalize hq3:Cd.faultOf (Cd.inMaps T L 0 0 m.maps)=q3 at *;have HQ1:Hid (Pf.firstI (Pf.badI T nf ow m.locals L) (L.drop 0)=q1):=hq1;have HQ2:Hid (Cd.firstIx (Pf.badH T L (m.code.length:Int)) 0 (m.handlers.drop 0)=q2):=hq2;have HI:=Ac hI;have HH:=Ac hH;have HM:=Ac hM;have HRD:=Ac hRd;have HHA':=Ac HHA;have HBI:=Ac hBI;have HBH:=Ac hBH;have HLP:=Ac hLp;have hB0:=Aj w (.cells #[.slice fa1 lcs.length fc1,.slice fa2 lms.length fc2,.slice (some ⟨tg,0,none⟩) T.length tc,.slice ya yn yc,.int .i64 cl,.int .i64 nm,.slice pa pl pc,.int .i64 r1,.int .i64 r2,.int .i64 m.locals,.int .i64 st,.slice ca m.code.length cc,.slice ha m.handlers.length hc,.slice ma lmp.length mc,.slice none 0 0] 202) (.cells #[.int .i64 0,.int .i64 0,.int .i64 0] 65);have CB0:=Ak w (.cells #[.slice fa1 lcs.length fc1,.slice fa2 lms.length fc2,.slice (some ⟨tg,0,none⟩) T.length tc,.slice ya yn yc,.int .i64 cl,.int .i64 nm,.slice pa pl pc,.int .i64 r1,.int .i64 r2,.int .i64 m.locals,.int .i64 st,.slice ca m.code.length cc,.slice ha m.handlers.length hc,.slice ma lmp.length mc,.slice none 0 0] 202) (.cells #[.int .i64 0,.int .i64 0,.int .i64 0] 65);have CR0:=Ah w (.cells #[.slice fa1 lcs.length fc1,.slice fa2 lms.length fc2,.slice (some ⟨tg,0,none⟩) T.length tc,.slice ya yn yc,.int .i64 cl,.int .i64 nm,.slice pa pl pc,.int .i64 r1,.int .i64 r2,.int .i64 m.locals,.int .i64 st,.slice ca m.code.length cc,.slice ha m.handlers.length hc,.slice ma lmp.length mc,.slice none 0 0] 202) (.cells #[.int .i64 0,.int .i64 0,.int .i64 0] 65);clear hq1 hq2 hq3 hI hH hM hRd HHA hBI hBH hLp hTr hcs hms hco hha hmp hfr hbd hcf hL;by_cases hu:0≤Cd.unread m.code
 ·rw [if_pos hu];have hrd:=Aa HRD _ hB0;rw [if_pos hu,if_pos hu,show decide (Cd.unread m.code < 0)=false by simp;omega] at hrd;generalize Cd.unread m.code=u at *;have HR2:=Ac hrd;clear hrd HRD;go_enter Tryz.func120,Tryz.ntmps120;go_wp2_with fail
  refine (Aa HR2).mono ?_;rintro e w1 ⟨va,vc,rfl,_,hb1⟩;have hB1:=QB hB0 hb1;have CR1:=stay hb1 CR0;obtain ⟨q0,q1,q2⟩:=fr3 CR1;obtain ⟨z0,z1,z2⟩:=cl3 CR1;simp at z0 z1 z2;go_wp2_with fail
  refine bodyPost_ret (v:=.agg #[.int .i64 5,.int .i64 0,.int .i64 u]) (by simp [results,Tryz.results120,go_sem,z0,z1,z2]) rfl ?_;exact ⟨rfl,((hB1.setCell (by simp) _).setCell (by simp) _).setCell (by simp) _⟩
 ·rw [if_neg hu];have hrd:=Aa HRD _ hB0;rw [if_neg hu,if_neg hu,show decide (Cd.unread m.code < 0)=true by simp;omega] at hrd;have HR2:=Ac hrd;clear hrd HRD hu;generalize hF:(if 0≤q1 then ((5:Int),q1) else if 0≤q2 then (6,q2) else q3)=Fa
  have HF:=Ac hF;clear hF;go_enter Tryz.func120,Tryz.ntmps120;go_wp2_with fail
  refine (Aa HR2).mono ?_;rintro e w1 ⟨va,vc,rfl,hins,hb1⟩;have hB1:=QB hB0 hb1;have CR1:=stay hb1 CR0;have CB1:=stay hb1 CB0;have lB:=lt_of_block CB1;have f14:=Ag CB1 14;obtain ⟨a0,a1,a2,a3,a4,a5,a6,a7,a8,a9,a10,a11,a12,a13,a14⟩:=Gl CB1;simp at a0 a1 a2 a3 a4 a5 a6 a7 a8 a9 a10 a11 a12 a13 a14;have CB2:(w1.setCell ⟨w.heap.size,14,none⟩ (.slice va L.length vc)).heap[w.heap.size]?=some (.cells #[.slice fa1 lcs.length fc1,.slice fa2 lms.length fc2,.slice (some ⟨tg,0,none⟩) T.length tc,.slice ya yn yc,.int .i64 cl,.int .i64 nm,.slice pa pl pc,.int .i64 r1,.int .i64 r2,.int .i64 m.locals,.int .i64 st,.slice ca m.code.length cc,.slice ha m.handlers.length hc,.slice ma lmp.length mc,.slice va L.length vc] 202 (0,0)):=by rw [Ai CB1];rfl
  have CR2:(w1.setCell ⟨w.heap.size,14,none⟩ (.slice va L.length vc)).heap[w.heap.size+1]?=some (.cells #[.int .i64 0,.int .i64 0,.int .i64 0] 65 (0,0)):=by
   rw [Below.heap_setCell _ _ _ _ (by simp)];exact CR1
  have hB2:=hB1.setCell (p:=⟨w.heap.size,14,none⟩) (by simp) (.slice va L.length vc);have hins2:InsAt (w1.setCell ⟨w.heap.size,14,none⟩ (.slice va L.length vc)) (w.heap.size+1+1) (.slice va L.length vc) L :=
   InsAt.kp (by simpa using hins) (Kp.set (b:=w.heap.size+1+1) (i:=14) CB1 (.slice va L.length vc)) (by decide)
  clear hins HR2 hB0 CB0 CR0;have m14:=Ab CB2 14;simp at m14;go_wp2
  go_loopw [27] (fun v wr=>∃ k:Nat,k≤L.length∧v=.int .i64 (k:Int)∧Hid (Pf.firstI (Pf.badI T nf ow m.locals L) (L.drop k)=q1)∧Below w.heap.size w wr ∧
    wr.heap[w.heap.size]?=some (.cells #[.slice fa1 lcs.length fc1,.slice fa2 lms.length fc2,.slice (some ⟨tg,0,none⟩) T.length tc,.slice ya yn yc,.int .i64 cl,.int .i64 nm,.slice pa pl pc,.int .i64 r1,.int .i64 r2,.int .i64 m.locals,.int .i64 st,.slice ca m.code.length cc,.slice ha m.handlers.length hc,.slice ma lmp.length mc,.slice va L.length vc] 202 (0,0))∧wr.heap[w.heap.size+1]?=some (.cells #[.int .i64 0,.int .i64 0,.int .i64 0] 65 (0,0))∧InsAt wr (w.heap.size+1+1) (.slice va L.length vc) L)
   (fun v _=>L.length - (intOf v).toNat)
  case atStart=>exact ⟨0,by omega,rfl,HQ1,hB2,CB2,CR2,hins2⟩
  case round =>
   clear HQ1 hB2 CB2 CR2 hins2 CB1 CR1 hB1 hb1 m14 a0 a1 a2 a3 a4 a5 a6 a7 a8 a9 a10 a11 a12 a13 a14 f14;obtain ⟨k,hk,rfl,HQ,hB,CB,CR,hins⟩:=hrel;have hBs:=hB.size;have lB:=lt_of_block CB;have lR:=lt_of_block CR;obtain ⟨m0,m1,m2,m3,m4,m5,m6,m7,m8,m9,m10,m11,m12,m13,m14⟩:=Gl CB;simp at m0 m1 m2 m3 m4 m5 m6 m7 m8 m9 m10 m11 m12 m13 m14;by_cases hkn:k < L.length
   ·obtain ⟨g,hg,hglt,_,hcell⟩:=Am hins (by omega);obtain ⟨e1,e2,e3,e4⟩:=Gw L k hkn;have y0:=(hcell (k * 3) (by omega)).trans e1;have y1:=(hcell (k * 3+1) (by omega)).trans e2;have y2:=(hcell (k * 3+2) (by omega)).trans e3;have hd:L.drop k=L[k] :: L.drop (k+1):=List.drop_eq_getElem_cons hkn;have hq:=Aa HQ;rw [hd,Pf.firstI,Aa HBI] at hq;have hpl:=Aa HLP _ (List.getElem_mem hkn);generalize L[k]=x at *;obtain ⟨xp,xo,xn⟩:=x;simp only at y0 y1 y2 hq hpl;have hB1:=hB.alloc hBs (.cells #[.int .i64 xp,.int .i64 xo,.int .i64 xn] 204);have hBx:Below wr.heap.size wr (wr.alloc (.cells #[.int .i64 xp,.int .i64 xo,.int .i64 xn] 204)):=(Below.refl _ _).alloc (Nat.le_refl _) _;have hi1:=hins.kp (Kp.of_below (e:=none) hBx) (by decide);have hc:=Aa HI va vc _ xp xo xn _ hB1 hi1;generalize Cd.argP T nf ow m.locals L xo xn=A at *;have HC:=Ac hc;have HQQ:=Ac hq;have CX1:=Ad wr (.cells #[.int .i64 xp,.int .i64 xo,.int .i64 xn] 204);have CB1:=Af CB (.cells #[.int .i64 xp,.int .i64 xo,.int .i64 xn] 204);have CR1:=Af CR (.cells #[.int .i64 xp,.int .i64 xo,.int .i64 xn] 204);have kb:(k:Int) < (L.length:Int):=by omega
    clear hc hq hd hcell e1 e2 e3 e4 HQ hBx;subst hg;cases A with
    | false =>
     have HE:Hid (Fa=(5,xp)):=by
      unfold Hid;have e:q1=xp:=by rw [← Aa HQQ];simp
      rw [← Aa HF,e,if_pos hpl]
     clear HQQ;go_wp2_with fail
     refine (Aa HC).mono ?_;rintro e w2 ⟨rfl,hb2⟩;have hB2:=QB hB1 hb2;have CR2:=stay hb2 CR1;have CX2:=stay hb2 CX1;have x0:=Ab CX2 0;obtain ⟨q0,q1,q2⟩:=fr3 CR2;obtain ⟨z0,z1,z2⟩:=cl3 CR2;simp at z0 z1 z2 x0;go_wp2_with fail
     refine bodyPost_ret (v:=.agg #[.int .i64 5,.int .i64 0,.int .i64 xp]) (by simp [results,Tryz.results120,go_sem,z0,z1,z2]) rfl ?_;rw [Aa HE];exact ⟨rfl,((hB2.setCell (by simp) _).setCell (by simp) _).setCell (by simp) _⟩
    | true =>
     have HG:Hid (Pf.firstI (Pf.badI T nf ow m.locals L) (L.drop (k+1))=q1):=by unfold Hid;rw [← Aa HQQ];simp
     clear HQQ;go_wp2_with fail
     refine (Aa HC).mono ?_;rintro e w2 ⟨rfl,hb2⟩;have hB2:=QB hB1 hb2;have CB2:=stay hb2 CB1;have CR2:=stay hb2 CR1;have hi2:=hi1.kp (Kp.of_below (e:=none) hb2) (by decide);clear hb2 hB1 CB1 CR1 CX1 hB CB CR m0 m1 m2 m3 m4 m5 m6 m7 m8 m9 m10 m11 m12 m13 m14 y0 y1 y2 hi1 hins;go_wp2
     go_roundw
     case rel=>exact ⟨k+1,by omega,by go_num,HG,hB2,CB2,CR2,hi2⟩
     case measure=>simp [intOf];omega
   ·have HF2:Hid ((if 0≤q2 then ((6:Int),q2) else q3)=Fa):=by
     unfold Hid;have e:q1 = -1:=by rw [← Aa HQ,List.drop_eq_nil_of_le (by omega)];rfl
     rw [← Aa HF,e];exact (if_neg (by omega)).symm
    have kb:¬ (k:Int) < (L.length:Int):=by omega
    clear HQ HF;go_wp2
    go_loopw [43] (fun v wr'=>∃ k:Nat,k≤m.handlers.length∧v=.int .i64 (k:Int)∧Hid (Cd.firstIx (Pf.badH T L (m.code.length:Int)) k (m.handlers.drop k)=q2)∧Below w.heap.size w wr' ∧
      wr'.heap[w.heap.size]?=some (.cells #[.slice fa1 lcs.length fc1,.slice fa2 lms.length fc2,.slice (some ⟨tg,0,none⟩) T.length tc,.slice ya yn yc,.int .i64 cl,.int .i64 nm,.slice pa pl pc,.int .i64 r1,.int .i64 r2,.int .i64 m.locals,.int .i64 st,.slice ca m.code.length cc,.slice ha m.handlers.length hc,.slice ma lmp.length mc,.slice va L.length vc] 202 (0,0))∧wr'.heap[w.heap.size+1]?=some (.cells #[.int .i64 0,.int .i64 0,.int .i64 0] 65 (0,0))∧InsAt wr' (w.heap.size+1+1) (.slice va L.length vc) L)
     (fun v _=>m.handlers.length - (intOf v).toNat)
    case atStart=>exact ⟨0,by omega,rfl,HQ2,hB,CB,CR,hins⟩
    case round =>
     clear HQ2 hB CB CR hins m0 m1 m2 m3 m4 m5 m6 m7 m8 m9 m10 m11 m12 m13 m14 kb hk hkn lB lR hBs;obtain ⟨j,hk,rfl,HQ,hB,CB,CR,hins⟩:=hrel;have hBs:=hB.size;have lB:=lt_of_block CB;have lR:=lt_of_block CR;obtain ⟨m0,m1,m2,m3,m4,m5,m6,m7,m8,m9,m10,m11,m12,m13,m14⟩:=Gl CB;simp at m0 m1 m2 m3 m4 m5 m6 m7 m8 m9 m10 m11 m12 m13 m14;by_cases hkn:j < m.handlers.length
     ·obtain ⟨g,hg,hglt,_,hcell⟩:=Am (Aa HHA' _ hB) (by omega);have y0:=(hcell _ (Av m.handlers j hkn 0 (by omega)).2).trans (Av m.handlers j hkn 0 (by omega)).1;have y1:=(hcell _ (Av m.handlers j hkn 1 (by omega)).2).trans (Av m.handlers j hkn 1 (by omega)).1;have y2:=(hcell _ (Av m.handlers j hkn 2 (by omega)).2).trans (Av m.handlers j hkn 2 (by omega)).1;have y3:=(hcell _ (Av m.handlers j hkn 3 (by omega)).2).trans (Av m.handlers j hkn 3 (by omega)).1;have hd:m.handlers.drop j=m.handlers[j] :: m.handlers.drop (j+1):=List.drop_eq_getElem_cons hkn;have hq:=Aa HQ;rw [hd,Cd.firstIx,Aa HBH] at hq;generalize m.handlers[j]=x at *;obtain ⟨x1,x2,x3,x4⟩:=x;simp at y0 y1 y2 y3;have hB1:=hB.alloc hBs (.cells #[.int .i64 x1,.int .i64 x2,.int .i64 x3,.int .i64 x4] 219);have hBx:Below wr.heap.size wr (wr.alloc (.cells #[.int .i64 x1,.int .i64 x2,.int .i64 x3,.int .i64 x4] 219)):=(Below.refl _ _).alloc (Nat.le_refl _) _;have hi1:=hins.kp (Kp.of_below (e:=none) hBx) (by decide);have hc:=Aa HH va vc _ ⟨x1,x2,x3,x4⟩ _ hB1 hi1;simp only at hc;generalize Cd.hndMay T L (m.code.length:Int) ⟨x1,x2,x3,x4⟩=A at *;have HC:=Ac hc;have HQQ:=Ac hq;have CB1:=Af CB (.cells #[.int .i64 x1,.int .i64 x2,.int .i64 x3,.int .i64 x4] 219);have CR1:=Af CR (.cells #[.int .i64 x1,.int .i64 x2,.int .i64 x3,.int .i64 x4] 219);have kb:(j:Int) < (m.handlers.length:Int):=by omega
      clear hc hq hd hcell HQ hBx;subst hg;cases A with
      | false =>
       have HE:Hid (Fa=(6,(j:Int))):=by
        unfold Hid;have e:q2=(j:Int):=by rw [← Aa HQQ];simp
        rw [← Aa HF2,e,if_pos (by omega)]
       clear HQQ;go_wp2_with fail
       refine (Aa HC).mono ?_;rintro e w2 ⟨rfl,hb2⟩;have hB2:=QB hB1 hb2;have CR2:=stay hb2 CR1;obtain ⟨q0,q1,q2⟩:=fr3 CR2;obtain ⟨z0,z1,z2⟩:=cl3 CR2;simp at z0 z1 z2;go_wp2_with fail
       refine bodyPost_ret (v:=.agg #[.int .i64 6,.int .i64 0,.int .i64 (j:Int)]) (by simp [results,Tryz.results120,go_sem,z0,z1,z2]) rfl ?_;rw [Aa HE];exact ⟨rfl,((hB2.setCell (by simp) _).setCell (by simp) _).setCell (by simp) _⟩
      | true =>
       have HG:Hid (Cd.firstIx (Pf.badH T L (m.code.length:Int)) (j+1) (m.handlers.drop (j+1))=q2):=by unfold Hid;rw [← Aa HQQ];simp
       clear HQQ;go_wp2_with fail
       refine (Aa HC).mono ?_;rintro e w2 ⟨rfl,hb2⟩;have hB2:=QB hB1 hb2;have CB2:=stay hb2 CB1;have CR2:=stay hb2 CR1;have hi2:=hi1.kp (Kp.of_below (e:=none) hb2) (by decide);clear hb2 hB1 CB1 CR1 hB CB CR m0 m1 m2 m3 m4 m5 m6 m7 m8 m9 m10 m11 m12 m13 m14 y0 y1 y2 y3 hi1 hins;go_wp2
       go_roundw
       case rel=>exact ⟨j+1,by omega,by go_num,HG,hB2,CB2,CR2,hi2⟩
       case measure=>simp [intOf];omega
     ·have HE:Hid (q3=Fa):=by
       unfold Hid;have e:q2 = -1:=by rw [← Aa HQ,List.drop_eq_nil_of_le (by omega)];rfl
       rw [← Aa HF2,e,if_neg (by omega)]
      have kb:¬ (j:Int) < (m.handlers.length:Int):=by omega
      have hm:=Aa HM va vc _ _ hB hins;have HMM:=Ac hm;clear hm HQ;go_wp2_with fail
      refine (Aa HMM).mono ?_;rintro e w2 ⟨rfl,hb2⟩;have hB2:=hB.trans (hb2.mono hBs);have CR2:=stay hb2 CR;obtain ⟨q0,q1,q2⟩:=fr3 CR2;obtain ⟨z0,z1,z2⟩:=cl3 CR2;simp at z0 z1 z2;go_wp2_with fail
      refine bodyPost_ret (v:=.agg #[.int .i64 q3.1,.int .i64 0,.int .i64 q3.2]) (by simp [results,Tryz.results120,go_sem,z0,z1,z2]) rfl ?_;rw [Aa HE];exact ⟨rfl,((hB2.setCell (by simp) _).setCell (by simp) _).setCell (by simp) _⟩
def Wr.b (n:Int):UInt8:=UInt8.ofNat (n % 256).toNat
def Wr.ty (t:Int × Int):List UInt8:=[Wr.b t.1,Wr.b t.2]
def Wr.tys (l:List (Int × Int)):List UInt8:=l.flatMap Wr.ty
def Wr.cls (c:Rd.Cls):List UInt8:=Wr.b c.above :: Wr.b (c.fields.length:Int) :: Wr.tys c.fields
def Wr.hnd (h:Rd.Hnd):List UInt8:=[Wr.b h.frm,Wr.b h.til,Wr.b h.target,Wr.b h.cl]
def Wr.hnds (l:List Rd.Hnd):List UInt8:=Wr.b (l.length:Int) :: l.flatMap Wr.hnd
def Wr.mp (m:Rd.Mp):List UInt8:=Wr.b m.place :: (Wr.tys m.locals ++ Wr.b (m.stack.length:Int) :: Wr.tys m.stack)
def Wr.mps (l:List Rd.Mp):List UInt8:=Wr.b (l.length:Int) :: l.flatMap Wr.mp
def Wr.head (m:Rd.Mth):List UInt8 :=
 [Wr.b m.cl,Wr.b m.name,Wr.b (m.params.length:Int)] ++ Wr.tys m.params ++ Wr.ty m.result ++ [Wr.b m.locals,Wr.b m.stack,Wr.b (m.code.length:Int)] ++ m.code.map Wr.b ++ Wr.hnds m.handlers
def Wr.mth (m:Rd.Mth):List UInt8:=Wr.head m ++ Wr.mps m.maps
def Wr.front (cs:List Rd.Cls) (n:Int):List UInt8:=[83,77,Wr.b (cs.length:Int)] ++ cs.flatMap Wr.cls ++ [Wr.b n]
def Wr.fil (f:Rd.Fil):List UInt8:=Wr.front f.classes (f.methods.length:Int) ++ f.methods.flatMap Wr.mth
def Rd.Mth.bare (m:Rd.Mth):Rd.Mth:=⟨m.cl,m.name,m.params,m.result,m.locals,m.stack,m.code,m.handlers,[]⟩
def Rd.Fil.bare (f:Rd.Fil):Rd.Fil:=⟨f.classes,f.methods.map Rd.Mth.bare⟩
def Seg (s:List UInt8) (i j:Int) (l:List UInt8):Prop:=0≤i∧i≤j∧j≤(s.length:Int)∧(s.drop i.toNat).take (j - i).toNat=l
theorem Seg.app {s:List UInt8}{i j k:Int}{l r:List UInt8} (h:Seg s i j l) (g:Seg s j k r):Seg s i k (l ++ r):=by
 obtain ⟨a,b,c,d⟩:=h;obtain ⟨a',b',c',d'⟩:=g;refine ⟨a,by omega,c',?_⟩;rw [show (k - i).toNat=(j - i).toNat+(k - j).toNat by omega,List.take_add,d,List.drop_drop,show i.toNat+(j - i).toNat=j.toNat by omega,d']
theorem Seg.nil {s:List UInt8}{i:Int} (h0:0≤i) (h1:i≤(s.length:Int)):Seg s i i []:=⟨h0,by omega,h1,by simp⟩
theorem Seg.one {s:List UInt8}{i:Int} (h0:0≤i) (h1:i < (s.length:Int)):Seg s i (i+1) [Wr.b (Rf.at' s i)]:=by
 refine ⟨h0,by omega,by omega,?_⟩;have hl:i.toNat < s.length:=by omega
 rw [show (i+1 - i).toNat=1 by omega,List.drop_eq_getElem_cons hl];simp only [List.take_succ_cons,List.take_zero,List.cons.injEq,and_true];unfold Rf.at' Wr.b;rw [if_neg (by omega),if_neg (by omega),List.getElem?_eq_getElem hl];simp only [Option.getD_some];have:=(s[i.toNat]).toNat_lt;rw [show (((s[i.toNat]).toNat:Int) % 256).toNat=(s[i.toNat]).toNat by omega]
 simp
theorem Aax {s:List UInt8}{i:Int} (h:0≤Rf.at' s i):0≤i∧i < (s.length:Int):=by
 unfold Rf.at' at h;by_cases h1:i < 0
 ·rw [if_pos h1] at h;omega
 ·rw [if_neg h1] at h;by_cases h2:(s.length:Int)≤i
  ·rw [if_pos h2] at h;omega
  ·omega
theorem Fs {s:List UInt8}{i a b:Int} (ha:0≤a) (h:0≤Rf.cnt s i a b):Rf.cnt s i a b=Rf.at' s i∧0≤i∧i < (s.length:Int):=by
 unfold Rf.cnt at h ⊢;by_cases h1:Rf.at' s i < a
 ·rw [if_pos h1] at h;omega
 ·rw [if_neg h1] at h ⊢;by_cases h2:b < Rf.at' s i
  ·rw [if_pos h2] at h;omega
  ·rw [if_neg h2];exact ⟨rfl,Aax (by omega)⟩
theorem Qz (s:List UInt8) (i:Int) (h0:0≤i) (k:Nat) (h:i+2 * (k:Int)≤(s.length:Int)):Seg s i (i+2 * (k:Int)) (Wr.tys (Rf.tys s i k)):=by
 induction k with
 | zero=>simpa [Rf.tys,Wr.tys] using Seg.nil h0 (by omega)
 | succ j ih =>
  have a:=ih (by omega);have b:=(Seg.one (s:=s) (i:=i+2 * (j:Int)) (by omega) (by omega)).app (Seg.one (s:=s) (i:=i+2 * (j:Int)+1) (by omega) (by omega));have c:=a.app b;rw [Rf.tys,Wr.tys,List.flatMap_append];rw [show i+2 * ((j+1:Nat):Int)=i+2 * (j:Int)+1+1 by omega]
  simpa [Wr.tys,Wr.ty] using c
theorem Wy (s:List UInt8) (i:Int) (h0:0≤i) (k:Nat) (h:i+(k:Int)≤(s.length:Int)):Seg s i (i+(k:Int)) ((Rf.codeTo s i k).map Wr.b):=by
 induction k with
 | zero=>simpa [Rf.codeTo] using Seg.nil h0 (by omega)
 | succ j ih =>
  have c:=(ih (by omega)).app (Seg.one (s:=s) (i:=i+(j:Int)) (by omega) (by omega));rw [Rf.codeTo,List.map_append];rw [show i+((j+1:Nat):Int)=i+(j:Int)+1 by omega]
  simpa using c
theorem Ub (s:List UInt8) (i:Int) (h0:0≤i) (k:Nat) (h:i+1+4 * (k:Int)≤(s.length:Int)):Seg s (i+1) (i+1+4 * (k:Int)) ((Rf.hndTo s i k).flatMap Wr.hnd):=by
 induction k with
 | zero=>simpa [Rf.hndTo] using Seg.nil (s:=s) (i:=i+1) (by omega) (by omega)
 | succ j ih =>
  have b:=(((Seg.one (s:=s) (i:=i+1+4 * (j:Int)) (by omega) (by omega)).app (Seg.one (s:=s) (i:=i+1+4 * (j:Int)+1) (by omega) (by omega))).app
   (Seg.one (s:=s) (i:=i+1+4 * (j:Int)+1+1) (by omega) (by omega))).app (Seg.one (s:=s) (i:=i+1+4 * (j:Int)+1+1+1) (by omega) (by omega))
  have c:=(ih (by omega)).app b;rw [Rf.hndTo,List.flatMap_append];rw [show i+1+4 * ((j+1:Nat):Int)=i+1+4 * (j:Int)+1+1+1+1 by omega];rw [show i+1+4 * (j:Int)+1+1+1=i+1+4 * (j:Int)+3 by omega,show i+1+4 * (j:Int)+1+1=i+1+4 * (j:Int)+2 by omega] at *
  simpa [Wr.hnd,Rf.hndAt] using c
theorem W6 (s:List UInt8) (i:Int) (h0:0≤i) (h:0≤(Rf.hnds s i).2):Seg s i (Rf.hnds s i).2 (Wr.hnds (Rf.hnds s i).1):=by
 unfold Rf.hnds at h ⊢;by_cases h1:Rf.cnt s i 0 4 < 0
 ·rw [if_pos h1] at h;simp at h
 ·rw [if_neg h1] at h ⊢;by_cases h2:(s.length:Int) < i+1+4 * Rf.cnt s i 0 4
  ·rw [if_pos h2] at h;simp at h
  ·rw [if_neg h2];obtain ⟨e,_,hl⟩:=Fs (by omega) (show 0≤Rf.cnt s i 0 4 by omega);have hc:((Rf.cnt s i 0 4).toNat:Int)=Rf.cnt s i 0 4:=by omega
   have b:=Ub s i h0 (Rf.cnt s i 0 4).toNat (by rw [hc];omega);rw [hc] at b;have a:=(Seg.one (s:=s) (i:=i) h0 hl).app b;simp only;unfold Wr.hnds;rw [Ja,hc,e] at *;exact a
theorem Xp (s:List UInt8) (i:Int) (h0:0≤i) (h:0≤(Rf.mth s i).2):Seg s i (Rf.mth s i).1.mapsAt (Wr.head (Rf.mth s i).1.m):=by
 unfold Rf.mth at h ⊢;dsimp only at h ⊢;have n1:¬ (0:Int)≤-1:=by omega
 by_cases h1:Rf.cnt s (i+2) 0 4 < 0
 ·rw [if_pos h1] at h;exact absurd h n1
 rw [if_neg h1] at h ⊢;obtain ⟨e1,_,l1⟩:=Fs (by omega) (show 0≤Rf.cnt s (i+2) 0 4 by omega);generalize Rf.cnt s (i+2) 0 4=p at *;have hp:((p.toNat:Nat):Int)=p:=by omega
 generalize hj:i+3+2 * p=j at *;by_cases h2:Rf.cnt s (j+2) 0 8 < 0
 ·rw [if_pos h2] at h;exact absurd h n1
 rw [if_neg h2] at h ⊢;obtain ⟨e2,_,l2⟩:=Fs (by omega) (show 0≤Rf.cnt s (j+2) 0 8 by omega);generalize Rf.cnt s (j+2) 0 8=lo at *;by_cases h3:Rf.cnt s (j+3) 0 8 < 0
 ·rw [if_pos h3] at h;exact absurd h n1
 rw [if_neg h3] at h ⊢;obtain ⟨e3,_,l3⟩:=Fs (by omega) (show 0≤Rf.cnt s (j+3) 0 8 by omega);generalize Rf.cnt s (j+3) 0 8=st at *;by_cases h4:Rf.cnt s (j+4) 1 120 < 0
 ·rw [if_pos h4] at h;exact absurd h n1
 rw [if_neg h4] at h ⊢;obtain ⟨e4,_,l4⟩:=Fs (by omega) (show 0≤Rf.cnt s (j+4) 1 120 by omega);generalize Rf.cnt s (j+4) 1 120=n at *;have hn:((n.toNat:Nat):Int)=n:=by omega
 by_cases h5:(s.length:Int) < j+5+n
 ·rw [if_pos h5] at h;exact absurd h n1
 rw [if_neg h5] at h ⊢;by_cases h6:(Rf.hnds s (j+5+n)).2 < 0
 ·rw [if_pos h6] at h;exact absurd h n1
 rw [if_neg h6] at h ⊢;simp only;have a1:=((Seg.one (s:=s) (i:=i) h0 (by omega)).app (Seg.one (s:=s) (i:=i+1) (by omega) (by omega))).app (Seg.one (s:=s) (i:=i+1+1) (by omega) (by omega));have a2:=Qz s (i+3) (by omega) p.toNat (by rw [hp];omega);rw [hp,hj] at a2;have a3:=(Seg.one (s:=s) (i:=j) (by omega) (by omega)).app (Seg.one (s:=s) (i:=j+1) (by omega) (by omega));have a4:=((Seg.one (s:=s) (i:=j+2) (by omega) (by omega)).app (Seg.one (s:=s) (i:=j+2+1) (by omega) (by omega))).app (Seg.one (s:=s) (i:=j+2+1+1) (by omega) (by omega));have a5:=Wy s (j+5) (by omega) n.toNat (by rw [hn];omega);rw [hn] at a5;have a6:=W6 s (j+5+n) (by omega) (by omega);rw [show i+1+1+1=i+3 by omega,show i+1+1=i+2 by omega] at a1;rw [show j+1+1=j+2 by omega] at a3;rw [show j+2+1+1+1=j+5 by omega,show j+2+1+1=j+4 by omega,show j+2+1=j+3 by omega] at a4;have a:=((((a1.app a2).app a3).app a4).app a5).app a6;unfold Wr.head;simp only;rw [← e1,← e2,← e3,← e4] at a;rw [Br,La,hp,hn]
 simpa [Wr.ty] using a
def Segs (s:List UInt8) (e:Int):Int→List Rf.Mth→Prop
 | i,[]=>i=e
 | i,x :: r=>Seg s i x.mapsAt (Wr.head x.m)∧Segs s e x.fin r
theorem Segs.snoc {s:List UInt8}{i e:Int}{l:List Rf.Mth}{x:Rf.Mth} (h:Segs s e i l) (h1:Seg s e x.mapsAt (Wr.head x.m)):Segs s x.fin i (l ++ [x]):=by
 induction l generalizing i with
 | nil=>rw [Segs] at h;subst h;exact ⟨h1,rfl⟩
 | cons y r ih=>exact ⟨h.1,ih h.2⟩
theorem W4 (s:List UInt8) (n:Nat) (i:Int) (_hi:0≤i) (h:0≤(Rf.rep (Rf.mth s) n i).2):Segs s (Rf.rep (Rf.mth s) n i).2 i (Rf.rep (Rf.mth s) n i).1∧(Rf.rep (Rf.mth s) n i).1.length=n:=by
 induction n with
 | zero=>simp [Rf.rep,Segs]
 | succ k ih =>
  unfold Rf.rep at h ⊢;by_cases h1:(Rf.rep (Rf.mth s) k i).2 < 0
  ·rw [if_pos h1] at h;simp at h
  ·rw [if_neg h1] at h ⊢;by_cases h2:(Rf.mth s (Rf.rep (Rf.mth s) k i).2).2 < 0
   ·rw [if_pos h2] at h;simp at h
   ·rw [if_neg h2] at h ⊢;simp only at h ⊢;obtain ⟨g1,g2,g3⟩:=U8 s (Rf.rep (Rf.mth s) k i).2 (by omega) h;obtain ⟨i1,i2⟩:=ih (by omega);rw [← g3];exact ⟨i1.snoc (Xp s _ (by omega) h),by simp [i2]⟩
theorem Wo (s:List UInt8) (n:Nat) (i:Int) (hi:0≤i) (h:0≤(Rf.rep (Rf.cls s) n i).2) (hl:(Rf.rep (Rf.cls s) n i).2≤(s.length:Int)) :
  Seg s i (Rf.rep (Rf.cls s) n i).2 ((Rf.rep (Rf.cls s) n i).1.flatMap Wr.cls)∧(Rf.rep (Rf.cls s) n i).1.length=n:=by
 induction n with
 | zero =>
  simp only [Rf.rep] at hl ⊢;exact ⟨by simpa using Seg.nil hi hl,rfl⟩
 | succ k ih =>
  unfold Rf.rep at h hl ⊢;by_cases h1:(Rf.rep (Rf.cls s) k i).2 < 0
  ·rw [if_pos h1] at h;simp at h
  ·rw [if_neg h1] at h hl ⊢;by_cases h2:(Rf.cls s (Rf.rep (Rf.cls s) k i).2).2 < 0
   ·rw [if_pos h2] at h;simp at h
   ·rw [if_neg h2] at h hl ⊢;simp only at h hl ⊢;have g:=Z8 s (Rf.rep (Rf.cls s) k i).2 (by omega) h;obtain ⟨i1,i2⟩:=ih (by omega) (by omega);generalize Rf.rep (Rf.cls s) k i=q at *;refine ⟨?_,by simp [i2]⟩;rw [List.flatMap_append];refine i1.app ?_;unfold Rf.cls at h2 hl ⊢;by_cases h3:Rf.cnt s (q.2+1) 0 4 < 0
    ·rw [if_pos h3] at h2;simp at h2
    ·rw [if_neg h3] at h2 hl ⊢;obtain ⟨e,_,l1⟩:=Fs (by omega) (show 0≤Rf.cnt s (q.2+1) 0 4 by omega);generalize Rf.cnt s (q.2+1) 0 4=p at *;have hp:((p.toNat:Nat):Int)=p:=by omega
     simp only at hl ⊢;have a:=(Seg.one (s:=s) (i:=q.2) (by omega) (by omega)).app (Seg.one (s:=s) (i:=q.2+1) (by omega) (by omega));have b:=Qz s (q.2+2) (by omega) p.toNat (by rw [hp];omega);rw [hp] at b;rw [show q.2+1+1=q.2+2 by omega] at a;have c:=a.app b;simp only [List.flatMap_cons,List.flatMap_nil,List.append_nil];unfold Wr.cls;simp only;rw [← e] at c;rw [Br,hp]
     simpa using c
theorem Yd (s:List UInt8) (h:(Rf.fil s).2.2=(s.length:Int)):∃ i,Seg s 0 i (Wr.front (Rf.fil s).1 ((Rf.fil s).2.1.length:Int))∧Segs s (s.length:Int) i (Rf.fil s).2.1:=by
 unfold Rf.fil at h ⊢;have n1:¬ (-1:Int)=(s.length:Int):=by omega
 by_cases h1:Rf.at' s 0 ≠ 83
 ·rw [if_pos h1] at h;exact absurd h n1
 rw [if_neg h1] at h ⊢;by_cases h2:Rf.at' s 1 ≠ 77
 ·rw [if_pos h2] at h;exact absurd h n1
 rw [if_neg h2] at h ⊢;by_cases h3:Rf.cnt s 2 0 6 < 0
 ·rw [if_pos h3] at h;exact absurd h n1
 rw [if_neg h3] at h ⊢;dsimp only at h ⊢;obtain ⟨e3,_,l3⟩:=Fs (by omega) (show 0≤Rf.cnt s 2 0 6 by omega);generalize Rf.cnt s 2 0 6=n at *;by_cases h4:(Rf.rep (Rf.cls s) n.toNat 3).2 < 0
 ·rw [if_pos h4] at h;exact absurd h n1
 rw [if_neg h4] at h ⊢;by_cases h5:Rf.cnt s (Rf.rep (Rf.cls s) n.toNat 3).2 1 6 < 0
 ·rw [if_pos h5] at h;exact absurd h n1
 rw [if_neg h5] at h ⊢;obtain ⟨e5,_,l5⟩:=Fs (by omega) (show 0≤Rf.cnt s (Rf.rep (Rf.cls s) n.toNat 3).2 1 6 by omega);have hc:=Wo s n.toNat 3 (by omega) (by omega) (by omega);generalize Rf.rep (Rf.cls s) n.toNat 3=q at *;generalize Rf.cnt s q.2 1 6=k at *;by_cases h6:(Rf.rep (Rf.mth s) k.toNat (q.2+1)).2 < 0
 ·rw [if_pos h6] at h;exact absurd h n1
 rw [if_neg h6] at h ⊢;have hm:=W4 s k.toNat (q.2+1) (by omega) (by omega);generalize Rf.rep (Rf.mth s) k.toNat (q.2+1)=r at *;simp only at h ⊢;refine ⟨q.2+1,?_,by rw [← h];exact hm.1⟩;have a:=((Seg.one (s:=s) (i:=0) (by omega) (by omega)).app (Seg.one (s:=s) (i:=0+1) (by omega) (by omega))).app (Seg.one (s:=s) (i:=0+1+1) (by omega) (by omega));have b:=(a.app hc.1).app (Seg.one (s:=s) (i:=q.2) (by omega) (by omega));have g1:Rf.at' s 0=83:=by simpa using h1
 have g2:Rf.at' s (0+1)=77:=by simpa using h2
 have g3:Rf.at' s (0+1+1)=n:=by rw [e3];rfl
 rw [g1,g2,g3,← e5] at b;unfold Wr.front;rw [hc.2,hm.2,show ((n.toNat:Nat):Int)=n by omega,show ((k.toNat:Nat):Int)=k by omega]
 simpa [Wr.b] using b
theorem Rp {s:ByteArray}{i j:Int}{l:List UInt8} (h:Seg s.data.toList i j l):(s.extract i.toNat j.toNat).data.toList=l:=by
 obtain ⟨a,b,c,d⟩:=h;rw [ByteArray.data_extract,Array.toList_extract,List.extract_eq_take_drop];rw [← d]
 congr 1
 omega
theorem Aat {a b:ByteArray} (h:a.data.toList=b.data.toList):a=b:=by
 cases a;cases b
 congr 1
 exact Array.toList_inj.1 h
theorem Sf (s:ByteArray) (ms:List Rf.Mth):∀ (out:ByteArray) (i j:Int) (pre:List UInt8),Seg s.data.toList i j pre→Segs s.data.toList (s.size:Int) j ms →
  (∀ x∈ms,0≤x.fin∧x.fin≤(s.size:Int)) →
  (Rf.strip s out i ms).data.toList=out.data.toList ++ pre ++ ms.flatMap (fun x=>Wr.mth x.m.bare):=by
 induction ms with
 | nil =>
  intro out i j pre h g _;rw [Segs] at g;subst g;rw [Rf.strip,ByteArray.data_append,Array.toList_append];have:=Rp h;simp only [Int.toNat_natCast] at this;rw [this]
  simp
 | cons x r ih =>
  intro out i j pre h g hf;rw [Rf.strip,ih _ x.fin x.fin [] (Seg.nil (hf x (List.mem_cons_self ..)).1 (by simpa using (hf x (List.mem_cons_self ..)).2)) g.2 (fun y hy=>hf y (List.mem_cons_of_mem _ hy))];rw [ByteArray.data_append,ByteArray.data_append,Array.toList_append,Array.toList_append,Rp (h.app g.1)];rw [List.flatMap_cons];have:Wr.mth x.m.bare=Wr.head x.m ++ [0]:=by
   unfold Wr.mth;rfl
  rw [this]
  simp
theorem Tt {e i:Int}{l:List Rf.Mth} (h:Rf.chain e i l) (h0:0≤i):∀ x∈l,0≤x.fin∧x.fin≤e:=by
 induction l generalizing i with
 | nil=>simp
 | cons y r ih =>
  obtain ⟨a,b,c⟩:=h;have:=Ox c;intro x hx;simp only [List.mem_cons] at hx;rcases hx with rfl | hx
  ·omega
  ·exact ih c (by omega) x hx
theorem Og (s:ByteArray) (h:(Rf.formed s.data.toList).1=0):Rf.stripD s=⟨(Wr.fil (Rd.Fil.bare (Rd.read s.data.toList).1)).toArray⟩:=by
 obtain ⟨hf,hl⟩:=Hy _ h;obtain ⟨i,h1,h2⟩:=Yd _ hf;obtain ⟨i',h0,hch⟩:=Nm _ hf;have hfin:=Tt hch h0;obtain ⟨r1,r2⟩:=Ib s.data.toList;rw [if_neg (by omega),if_neg (fun g=>g hf)] at r1;obtain ⟨c1,c2⟩:=r2 r1;unfold Rf.stripD;rw [if_neg (fun g=>g h)];apply Aat;simp only [Array.length_toList,ByteArray.size_data] at h2 hfin;rw [Sf s _ ⟨#[]⟩ 0 i _ h1 h2 hfin];unfold Wr.fil Rd.Fil.bare;rw [c1,c2];simp [List.flatMap_map]
end Go.Proofs.YtcefiamkoincoaaGreat
