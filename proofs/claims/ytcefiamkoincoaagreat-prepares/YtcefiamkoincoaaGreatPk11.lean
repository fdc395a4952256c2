/- a part of the proof -/
import Derived.Laws.IdiomStrings
import Derived.Test.YtcefiamkoincoaaGreatPk10
set_option maxRecDepth 100000
set_option maxHeartbeats 40000000
set_option linter.unusedVariables false
set_option linter.unusedSimpArgs false
namespace Go.Proofs.YtcefiamkoincoaaGreat
open Go.RowKit
theorem Sc (es:List Rd.Mth) (ea:Option Addr) (ec:Nat) (m:PM) (x:Rd.Mth) (w:World) (hcl:m.cl=x.cl) (hnm:m.nm=x.name) (hel:es.length≤1000)
  (HM:∀ w',Below w.heap.size w w'→∀ k (hk:k<es.length),∃ (o:PM) (g:Nat),ea=some ⟨g,0,none⟩∧g<w'.heap.size∧(∀ j v,o.list[j]?=some v→w'.cell? ⟨g,k*10+j,none⟩=some v)∧o.cl=es[k].cl∧o.nm=es[k].name) :
  Calls Tryz.prog 118 #[.slice ea es.length ec,m.val] w fun e w'=>e=.returned (.bool (Ads es x))∧Below w.heap.size w w':=by
 generalize hr:Ads es x=R;unfold Ads at hr;rw[← hcl]at hr;have hTw:∀ o,Acy x o=((o.cl==m.cl)&&(o.name==m.nm)):=fun o=>by unfold Acy;rw[hcl,hnm]
 obtain⟨cl,nm,pa,pl,pc,r1,r2,lo,st,ca,cn,cc,ha,hl,hc,ma,ml,mc⟩:=m;simp only[PM.val]at hr hTw ⊢;have HM':=Ac HM;have HTW:=Ac hTw;have hB0:Below w.heap.size w (w.alloc (O20 cl nm pa pl pc r1 r2 lo st ca cn cc ha hl hc ma ml mc)):=QN _;have CM0:=Ad w (O20 cl nm pa pl pc r1 r2 lo st ca cn cc ha hl hc ma ml mc);clear HM hTw hcl hnm;by_cases h1:cl=255
 ·subst h1;rw[if_pos rfl]at hr;have HE:=Ac hr;clear hr;go_enter Tryz.func118,Tryz.ntmps118;go_wp2;go_ret;exact⟨by rw[← Aa HE];rfl,hB0⟩
 ·rw[if_neg h1]at hr;have h1':(cl==255)=false:=by simpa using h1
  have HR:Hid ((es.drop 0).any (Acy x)=R):=hr;clear hr h1;go_enter Tryz.func118,Tryz.ntmps118;go_wp2
  go_loopw [12] (fun v wr=>∃ k:Nat,k≤es.length∧v=.int .i64 (k:Int)∧Hid ((es.drop k).any (Acy x)=R)∧Below w.heap.size w wr∧wr.heap[w.heap.size]?=some (O20 cl nm pa pl pc r1 r2 lo st ca cn cc ha hl hc ma ml mc))
   (fun v _=>es.length-(intOf v).toNat)
  case atStart=>exact⟨0,by omega,rfl,HR,hB0,CM0⟩
  case round =>
   clear HR hB0 CM0;obtain⟨k,hk,rfl,HR,hB,CM⟩:=hrel;have hBs:=hB.size;have lM:=lt_of_block CM;obtain⟨m0,m1⟩:=cl2 CM;simp at m0 m1;by_cases hkn:k<es.length
   ·obtain⟨o,g,hg,hglt,hrow,e1,e2⟩:=Aa HM' _ hB k hkn;replace hrow:=Hy hrow;have hd:es.drop k=es[k]::es.drop (k+1):=List.drop_eq_getElem_cons hkn;have hr:=Aa HR;rw[hd,List.any_cons,Aa HTW,← e1,← e2]at hr;obtain⟨ocl,onm,opa,opl,opc,or1,or2,olo,ost,oca,ocn,occ,oha,ohl,ohc,oma,oml,omc⟩:=o;simp only at hrow hr;obtain⟨y0,y1,y2,y3,y4,y5,y6,y7,y8,y9⟩:=hrow;have kb:(k:Int)<(es.length:Int):=by omega
    have hB1:=hB.alloc hBs (O20 ocl onm opa opl opc or1 or2 olo ost oca ocn occ oha ohl ohc oma oml omc);have CM1:=Aj CM (O20 ocl onm opa opl opc or1 or2 olo ost oca ocn occ oha ohl ohc oma oml omc);clear hd e1 e2 HR;subst hg;by_cases h2:ocl=cl
    ·subst h2;by_cases h3:onm=nm
     ·subst h3;have HE:Hid (R=true):=by unfold Hid;rw[← hr];simp
      clear hr;go_wp2;go_ret;exact⟨by rw[Aa HE];rfl,hB1⟩
     ·have HG:Hid ((es.drop (k+1)).any (Acy x)=R):=by unfold Hid;rw[← hr];simp[h3]
      have h3':(onm==nm)=false:=by simpa using h3
      clear hr h3;go_wp2
      go_roundw
      case rel=>exact⟨k+1,by omega,by go_num,HG,hB1,CM1⟩
      case measure=>simp[intOf];omega
    ·have HG:Hid ((es.drop (k+1)).any (Acy x)=R):=by unfold Hid;rw[← hr];simp[h2]
     have h2':(ocl==cl)=false:=by simpa using h2
     clear hr h2;go_wp2
     go_roundw
     case rel=>exact⟨k+1,by omega,by go_num,HG,hB1,CM1⟩
     case measure=>simp[intOf];omega
   ·have HE:Hid (R=false):=by unfold Hid;rw[← Aa HR,List.drop_eq_nil_of_le (by omega)];rfl
    have kb:¬ (k:Int)<(es.length:Int):=by omega
    clear HR;go_wp2;go_ret;exact⟨by rw[Aa HE];rfl,hB⟩
theorem Ot (o m:PM) (y x:Rd.Mth) (bb:Nat) (w:World) (ho:o.is y w bb) (hm:m.is x w bb) (hly:y.params.length≤1000) (_hlx:x.params.length≤1000) :
  Calls Tryz.prog 162 #[o.val,m.val] w fun e w'=>e=.returned (.bool (Ac6 y x))∧Below w.heap.size w w':=by
 generalize hr:Ac6 y x=R;unfold Ac6 at hr;have hy:y.result=(o.r1,o.r2):=by rw[ho.r1,ho.r2]
 have hx:x.result=(m.r1,m.r2):=by rw[hm.r1,hm.r2]
 rw[hy,hx]at hr;have HPO:∀ w',Below w.heap.size w w'→TysAt w' bb (.slice o.pa o.pl o.pc) y.params:=fun w' h=>(ho.below h).ps;have HPM:∀ w',Below w.heap.size w w'→TysAt w' bb (.slice m.pa m.pl m.pc) x.params:=fun w' h=>(hm.below h).ps;have eo:=ho.pl;have em:=hm.pl;clear hy hx ho hm;generalize y.params=A at *;generalize x.params=B at *;obtain⟨ocl,onm,opa,opl,opc,or1,or2,olo,ost,oca,ocn,occ,oha,ohl,ohc,oma,oml,omc⟩:=o;obtain⟨cl,nm,pa,pl,pc,r1,r2,lo,st,ca,cn,cc,ha,hl,hc,ma,ml,mc⟩:=m;simp only at eo em;subst eo em;simp only[PM.val]at hr HPO HPM ⊢;have HO:=Ac HPO;have HM:=Ac HPM;have hB0:=Ak w (O20 ocl onm opa A.length opc or1 or2 olo ost oca ocn occ oha ohl ohc oma oml omc) (O20 cl nm pa B.length pc r1 r2 lo st ca cn cc ha hl hc ma ml mc);have CO0:=Ah w (O20 ocl onm opa A.length opc or1 or2 olo ost oca ocn occ oha ohl ohc oma oml omc) (O20 cl nm pa B.length pc r1 r2 lo st ca cn cc ha hl hc ma ml mc);have CM0:=Ag w (O20 ocl onm opa A.length opc or1 or2 olo ost oca ocn occ oha ohl ohc oma oml omc) (O20 cl nm pa B.length pc r1 r2 lo st ca cn cc ha hl hc ma ml mc);clear HPO HPM;by_cases h1:or1=r1∧or2=r2
 ·rw[if_neg (by simp[h1])]at hr;obtain⟨rfl,rfl⟩:=h1;by_cases h2:A.length=B.length
  ·have HR:Hid (decide (A.drop 0=B.drop 0)=R):=hr;have h2':((A.length:Int) != (B.length:Int))=false:=by simp[h2]
   have le1:A.length≤B.length:=by omega
   have le2:B.length≤A.length:=by omega
   clear hr h2;go_enter Tryz.func162,Tryz.ntmps162;go_wp2
   go_loopw [24] (fun v wr=>∃ k:Nat,k≤A.length∧v=.int .i64 (k:Int)∧Hid (decide (A.drop k=B.drop k)=R)∧Below w.heap.size w wr∧wr.heap[w.heap.size+1]?=some (O20 cl nm pa B.length pc or1 or2 lo st ca cn cc ha hl hc ma ml mc))
    (fun v _=>A.length-(intOf v).toNat)
   case atStart=>exact⟨0,by omega,rfl,HR,hB0,CM0⟩
   case round =>
    clear HR hB0 CM0 CO0;obtain⟨k,hk,rfl,HR,hB,CM⟩:=hrel;have hBs:=hB.size;have lM:=lt_of_block CM;have m2:=Ab CM 2;simp at m2;by_cases hkn:k<A.length
    ·have hkb:k<B.length:=by omega
     obtain⟨ga,hga,hgalt,_,hca⟩:=Ao (Aa HO _ hB) (by omega);obtain⟨gb,hgb,hgblt,_,hcb⟩:=Ao (Aa HM _ hB) (by omega);obtain⟨a1,a2,a3⟩:=Az A k hkn;obtain⟨b1,b2,b3⟩:=Az B k hkb;have x0:=(hca (k*2) (by omega)).trans a1;have x1:=(hca (k*2+1) (by omega)).trans a2;have y0:=(hcb (k*2) (by omega)).trans b1;have y1:=(hcb (k*2+1) (by omega)).trans b2;have hr:=Aa HR;rw[Gc hkn hkb]at hr;have kb:(k:Int)<(A.length:Int):=by omega
     have kb2:(k:Int)<(B.length:Int):=by omega
     have kb3:decide ((B.length:Int)≤(k:Int))=false:=by simp;omega
     generalize A[k]=p at *;generalize B[k]=q at *;obtain⟨p1,p2⟩:=p;obtain⟨q1,q2⟩:=q;simp only at x0 x1 y0 y1;have hB1:=hB.alloc hBs (O7 p1 p2);have CM1:=Aj CM (O7 p1 p2);have hnn:¬ ((B.length:Int)≤(k:Int)):=by omega
     clear hca hcb a1 a2 a3 b1 b2 b3 HR;subst hga hgb;by_cases h3:p1=q1∧p2=q2
     ·obtain⟨rfl,rfl⟩:=h3;have HG:Hid (decide (A.drop (k+1)=B.drop (k+1))=R):=by unfold Hid;rw[← hr];simp
      clear hr;go_wp2_with (go_quiet (fail))
      go_wp2
      go_roundw
      case rel=>exact⟨k+1,by omega,by go_num,HG,⟨hB1.os,hB1.tape,hB1.output,hB1.size,hB1.block⟩,CM1⟩
      case measure=>simp[intOf];omega
     ·have HE:Hid (R=false):=by
       unfold Hid;have:decide ((p1,p2)=(q1,q2))=false:=by simpa using h3
       rw[← hr,this];rfl
      clear hr;by_cases h4:q1=p1
      ·subst h4;have h5:(q2==p2)=false:=by
        have:¬ q2=p2:=fun h=>h3 ⟨rfl,h.symm⟩
        simpa using this
       clear h3;go_wp2_with (go_quiet (fail))
       go_wp2;go_ret;exact⟨by rw[Aa HE];rfl,⟨hB1.os,hB1.tape,hB1.output,hB1.size,hB1.block⟩⟩
      ·have h5:(q1==p1)=false:=by simpa using h4
       clear h3 h4;go_wp2_with (go_quiet (fail))
       go_wp2;go_ret;exact⟨by rw[Aa HE];rfl,⟨hB1.os,hB1.tape,hB1.output,hB1.size,hB1.block⟩⟩
    ·have HE:Hid (R=true):=by unfold Hid;rw[← Aa HR,List.drop_eq_nil_of_le (by omega),List.drop_eq_nil_of_le (by omega)];rfl
     have kb:¬ (k:Int)<(A.length:Int):=by omega
     clear HR;go_wp2;go_ret;exact⟨by rw[Aa HE];rfl,hB⟩
  ·have HE:Hid (R=false):=by
    unfold Hid;rw[← hr];simp only[decide_eq_false_iff_not];intro h;exact h2 (by rw[h])
   have h2':((A.length:Int) != (B.length:Int))=true:=by simp;omega
   clear hr h2;go_enter Tryz.func162,Tryz.ntmps162;go_wp2;go_ret;exact⟨by rw[Aa HE];rfl,hB0⟩
 ·rw[if_pos (by simpa using h1)]at hr;have HE:=Ac hr;clear hr;by_cases h4:or1=r1
  ·subst h4;have h5:(or2==r2)=false:=by
    have:¬ or2=r2:=fun h=>h1 ⟨rfl,h⟩
    simpa using this
   clear h1;go_enter Tryz.func162,Tryz.ntmps162;go_wp2;go_ret;exact⟨by rw[← Aa HE];rfl,hB0⟩
  ·have h5:(or1==r1)=false:=by simpa using h4
   clear h1 h4;go_enter Tryz.func162,Tryz.ntmps162;go_wp2;go_ret;exact⟨by rw[← Aa HE];rfl,hB0⟩
variable {ya:Option Addr}{yn yc:Nat}
theorem Lo (fa1 fa2:Option Addr) (fl1 fc1 fc2:Nat) (lms:List (Rd.Mth × MthV)) (T:List Int) (tg cap bb:Nat) (m:PM) (x:Rd.Mth) (w:World) (hm:m.is x w bb) (hT:T.length≤1000) (hTr:TreeIn w tg T)
  (hm6:lms.length≤6) (hms:MthsIn w bb (.slice fa2 lms.length fc2) lms) (hpx:x.params.length≤1000) (hpl:∀ p∈lms,p.1.params.length≤1000) :
  Calls Tryz.prog 119 #[.agg #[.slice fa1 fl1 fc1,.slice fa2 lms.length fc2],.agg #[.slice (some ⟨tg,0,none⟩) T.length cap,.slice ya yn yc],m.val] w fun e w'=>e=.returned (.bool (Acx T (lms.map Prod.fst) x))∧Below w.heap.size w w':=by
 generalize hr:Acx T (lms.map Prod.fst) x=R;unfold Acx at hr;rw[← hm.cl]at hr;have hBr:∀ o,Abq T x o=((o.name==m.nm)&&(Tr.below T m.cl o.cl && !Ac6 o x)):=fun o=>by unfold Abq;rw[hm.cl,hm.nm]
 have hBl:=fun h w' (hb:Below w.heap.size w w')=>H9 (ya:=ya) (yn:=yn) (yc:=yc) T tg cap m.cl h w' hT (hTr.below hb);have hSC:=fun (o:PM) (y:Rd.Mth) w' (hb:Below w.heap.size w w') (ho:o.is y w' bb) hy=>Ot o m y x bb w' ho (hm.below hb) hy hpx;have HMS:∀ w',Below w.heap.size w w'→MthsIn w' bb (.slice fa2 lms.length fc2) lms:=fun w' h=>hms.kp (Kp.of_below (e:=none) h) (by decide) (by decide) (by decide) (by decide) (by decide);clear hm hms hTr;obtain⟨cl,nm,pa,pl,pc,r1,r2,lo,st,ca,cn,cc,ha,hl,hc,ma,ml,mc⟩:=m;simp only[PM.val]at hr hBr hBl hSC ⊢;have HBR:=Ac hBr;have HBL:=Ac hBl;have HSC:=Ac hSC;have HM':=Ac HMS;have HPL:=Ac hpl;have hB0:=A8 w (O1 fa1 fl1 fc1 fa2 lms.length fc2) (O2 (some ⟨tg,0,none⟩) T.length cap ya yn yc) (O20 cl nm pa pl pc r1 r2 lo st ca cn cc ha hl hc ma ml mc);have C0:=Em w (O1 fa1 fl1 fc1 fa2 lms.length fc2) (O2 (some ⟨tg,0,none⟩) T.length cap ya yn yc) (O20 cl nm pa pl pc r1 r2 lo st ca cn cc ha hl hc ma ml mc);clear hBr hBl hSC HMS hpl;by_cases h1:cl=255
 ·subst h1;rw[if_pos rfl]at hr;have HE:=Ac hr;clear hr;go_enter Tryz.func119,Tryz.ntmps119;go_wp2;go_ret;exact⟨by rw[← Aa HE];rfl,hB0⟩
 ·rw[if_neg h1]at hr;have h1':(cl==255)=false:=by simpa using h1
  have HR:Hid (((lms.map Prod.fst).drop 0).any (Abq T x)=R):=hr;clear hr h1;go_enter Tryz.func119,Tryz.ntmps119;go_wp2
  go_loopw [15] (fun v wr=>∃ k:Nat,k≤lms.length∧v=.int .i64 (k:Int)∧Hid (((lms.map Prod.fst).drop k).any (Abq T x)=R)∧Below w.heap.size w wr∧wr.heap[w.heap.size+1]?=some (O2 (some ⟨tg,0,none⟩) T.length cap ya yn yc)∧wr.heap[w.heap.size+1+1]?=some (O20 cl nm pa pl pc r1 r2 lo st ca cn cc ha hl hc ma ml mc))
   (fun v _=>lms.length-(intOf v).toNat)
  case atStart=>exact⟨0,by omega,rfl,HR,hB0,C0.2.1,C0.2.2⟩
  case round =>
   clear HR hB0 C0;obtain⟨k,hk,rfl,HR,hB,CT,CM⟩:=hrel;have hBs:=hB.size;have lT:=lt_of_block CT;have lM:=lt_of_block CM;obtain⟨m0,m1,m2,m3,m4,m5,m6,m7,m8,m9⟩:=Dc CM;simp at m0 m1 m2 m3 m4 m5 m6 m7 m8 m9;obtain⟨t0,t1⟩:=cl2 CT;simp at t0 t1;by_cases hkn:k<lms.length
   ·obtain⟨o,g,hg,hglt,hrow,his⟩:=(Aa HM' _ hB).mth hkn;replace hrow:=Hy hrow;have hpo:=Aa HPL _ (List.getElem_mem hkn);have hd:(lms.map Prod.fst).drop k=lms[k].1::(lms.map Prod.fst).drop (k+1):=by
     rw[List.drop_eq_getElem_cons (by simpa using hkn)]
     simp
    have hr:=Aa HR;rw[hd,List.any_cons,Aa HBR,← his.cl,← his.nm]at hr;generalize lms[k].1=y at *;have hBx:Below wr.heap.size wr (wr.alloc (O20 o.cl o.nm o.pa o.pl o.pc o.r1 o.r2 o.lo o.st o.ca o.cn o.cc o.ha o.hl o.hc o.ma o.ml o.mc)):=QN _;have HIS:∀ w',Below wr.heap.size wr w'→o.is y w' bb:=fun w' h=>his.below h;have hsc:=fun w' (h1:Below w.heap.size w w') (h2:Below wr.heap.size wr w')=>Aa HSC o y w' h1 (HIS w' h2) hpo;have hbl:=fun w' (h1:Below w.heap.size w w')=>Aa HBL o.cl w' h1;clear his HIS;obtain⟨ocl,onm,opa,opl,opc,or1,or2,olo,ost,oca,ocn,occ,oha,ohl,ohc,oma,oml,omc⟩:=o;simp only at hrow hr hsc hbl hBx;obtain⟨y0,y1,y2,y3,y4,y5,y6,y7,y8,y9⟩:=hrow;generalize Ac6 y x=SC at *;generalize Tr.below T cl ocl=BL at *;have HSC2:=Ac hsc;have HBL2:=Ac hbl;have kb:(k:Int)<(lms.length:Int):=by omega
    have hB1:=hB.alloc hBs (O20 ocl onm opa opl opc or1 or2 olo ost oca ocn occ oha ohl ohc oma oml omc);have CM1:=Aj CM (O20 ocl onm opa opl opc or1 or2 olo ost oca ocn occ oha ohl ohc oma oml omc);have CT1:=Aj CT (O20 ocl onm opa opl opc or1 or2 olo ost oca ocn occ oha ohl ohc oma oml omc);have CO1:=Ad wr (O20 ocl onm opa opl opc or1 or2 olo ost oca ocn occ oha ohl ohc oma oml omc);clear hd HR hsc hbl;subst hg;by_cases h3:onm=nm
    ·subst h3;cases BL with
     | false =>
      have HG:Hid (((lms.map Prod.fst).drop (k+1)).any (Abq T x)=R):=by unfold Hid;rw[← hr];simp
      clear hr;go_wp2_with fail
      refine(Aa HBL2 _ hB1).mono ?_;rintro e w2 ⟨rfl,hb2⟩;have hB2:=QB hB1 hb2;have CM2:=stay hb2 CM1;have CT2:=stay hb2 CT1;clear m0 m1 m2 m3 m4 m5 m6 m7 m8 m9 t0 t1 y0 y1 y2 y3 y4 y5 y6 y7 y8 y9 CM CT;go_wp2
      go_roundw
      case rel=>exact⟨k+1,by omega,by go_num,HG,hB2,CT2,CM2⟩
      case measure=>simp[intOf];omega
     | true =>
      cases SC with
      | false =>
       have HE:Hid (R=true):=by unfold Hid;rw[← hr];simp
       clear hr;go_wp2_with fail
       refine(Aa HBL2 _ hB1).mono ?_;rintro e w2 ⟨rfl,hb2⟩;have hB2:=QB hB1 hb2;have hX2:=QB hBx hb2;have CM2:=stay hb2 CM1;have CO2:=stay hb2 CO1;clear m0 m1 m2 m3 m4 m5 m6 m7 m8 m9 t0 t1 y0 y1 y2 y3 y4 y5 y6 y7 y8 y9 CM CT;obtain⟨m0,m1,m2,m3,m4,m5,m6,m7,m8,m9⟩:=Dc CM2;simp at m0 m1 m2 m3 m4 m5 m6 m7 m8 m9;obtain⟨o0,o1,o2,o3,o4,o5,o6,o7,o8,o9⟩:=Dc CO2;simp at o0 o1 o2 o3 o4 o5 o6 o7 o8 o9;go_wp2_with fail
       refine(Aa HSC2 _ hB2 hX2).mono ?_;rintro e w3 ⟨rfl,hb3⟩;go_wp2;go_ret;exact⟨by rw[Aa HE];rfl,QB hB2 hb3⟩
      | true =>
       have HG:Hid (((lms.map Prod.fst).drop (k+1)).any (Abq T x)=R):=by unfold Hid;rw[← hr];simp
       clear hr;go_wp2_with fail
       refine(Aa HBL2 _ hB1).mono ?_;rintro e w2 ⟨rfl,hb2⟩;have hB2:=QB hB1 hb2;have hX2:=QB hBx hb2;have CM2:=stay hb2 CM1;have CT2:=stay hb2 CT1;have CO2:=stay hb2 CO1;clear m0 m1 m2 m3 m4 m5 m6 m7 m8 m9 t0 t1 y0 y1 y2 y3 y4 y5 y6 y7 y8 y9 CM CT;obtain⟨m0,m1,m2,m3,m4,m5,m6,m7,m8,m9⟩:=Dc CM2;simp at m0 m1 m2 m3 m4 m5 m6 m7 m8 m9;obtain⟨o0,o1,o2,o3,o4,o5,o6,o7,o8,o9⟩:=Dc CO2;simp at o0 o1 o2 o3 o4 o5 o6 o7 o8 o9;go_wp2_with fail
       refine(Aa HSC2 _ hB2 hX2).mono ?_;rintro e w3 ⟨rfl,hb3⟩;have hB3:=QB hB2 hb3;have CM3:=stay hb3 CM2;have CT3:=stay hb3 CT2;clear m0 m1 m2 m3 m4 m5 m6 m7 m8 m9 o0 o1 o2 o3 o4 o5 o6 o7 o8 o9;go_wp2
       go_roundw
       case rel=>exact⟨k+1,by omega,by go_num,HG,hB3,CT3,CM3⟩
       case measure=>simp[intOf];omega
    ·have HG:Hid (((lms.map Prod.fst).drop (k+1)).any (Abq T x)=R):=by unfold Hid;rw[← hr];simp[h3]
     have h3':(onm==nm)=false:=by simpa using h3
     clear hr h3;go_wp2
     go_roundw
     case rel=>exact⟨k+1,by omega,by go_num,HG,hB1,CT1,CM1⟩
     case measure=>simp[intOf];omega
   ·have HE:Hid (R=false):=by unfold Hid;rw[← Aa HR,List.drop_eq_nil_of_le (by simp;omega)];rfl
    have kb:¬ (k:Int)<(lms.length:Int):=by omega
    clear HR;go_wp2;go_ret;exact⟨by rw[Aa HE];rfl,hB⟩
theorem Vg (c:List Int):∀ x∈Cd.insts c,0≤x.place:=by
 intro x hx;unfold Cd.insts at hx;simp only[List.mem_map]at hx;obtain⟨p,_,rfl⟩:=hx;exact Int.natCast_nonneg p
theorem Sk (c:List Int) (k p:Nat):(Cd.starts c k p).length≤k:=by
 induction k generalizing p with
 | zero=>simp[Cd.starts]
 | succ j ih =>
  unfold Cd.starts
  split
  ·simp;exact ih _
  ·simp
theorem Mb (c:List Int):(Cd.insts c).length≤c.length:=by
 unfold Cd.insts Cd.places;rw[List.length_map];exact Sk _ _ _
theorem Sv (fa1 fa2:Option Addr) (fc1 fc2 tg tc:Nat) (ya:Option Addr) (yn yc:Nat) (cl nm:Int) (pa:Option Addr) (pl pc:Nat) (r1 r2 st:Int) (ca ha ma:Option Addr) (cc hc mc:Nat) (T:List Int)
  (bm:Nat) (lcs:List (Rd.Cls × Value)) (lms:List (Rd.Mth × MthV)) (m:Rd.Mth) (lmp:List (Rd.Mp × Value × Value)) (w:World)
  (hT:T.length≤1000) (hTr:TreeIn w tg T) (hm6:lms.length≤6) (hc6:lcs.length≤6) (hcf:∀ p∈lcs,p.1.fields.length≤1000)
  (hcs:ClssIn w bm (.slice fa1 lcs.length fc1) lcs) (hms:MthsIn w bm (.slice fa2 lms.length fc2) lms) (hbd:Ad5 m) (hmm:lmp.map Prod.fst=m.maps)
  (hco:IntsAt w bm (.slice ca m.code.length cc) m.code) (hha:HndsAt w bm (.slice ha m.handlers.length hc) m.handlers) (hmp:MpsIn w bm (.slice ma lmp.length mc) lmp) :
  Calls Tryz.prog 120 #[PBd.val ⟨fa1,lcs.length,fc1,fa2,lms.length,fc2,tg,tc,ya,yn,yc,cl,nm,pa,pl,pc,r1,r2,m.locals,st,ca,m.code.length,cc,ha,m.handlers.length,hc,ma,lmp.length,mc,none,0,T,[]⟩] w fun e w' =>
   e=.returned (.agg #[.int .i64 (Adh T (Cd.fieldSum (lcs.map Prod.fst):Int) (lms.map fun p=>p.1.cl) m).1,.int .i64 0,.int .i64 (Adh T (Cd.fieldSum (lcs.map Prod.fst):Int) (lms.map fun p=>p.1.cl) m).2])∧Below w.heap.size w w':=by
 have hlm:lmp.length≤64:=by have:=congrArg List.length hmm;simp only[List.length_map]at this;rw[this];exact hbd.mp
 have hfr:∀ p∈lmp,p.1.locals.length≤1000∧p.1.stack.length≤1000∧-1000≤p.1.place∧p.1.place≤1000:=by
  intro p hp;have:=hbd.fr p.1 (by rw[← hmm];exact List.mem_map_of_mem hp);omega
 have hcl:=hbd.code;have hhl:=hbd.hs;have hRd:=fun w' (h:Below w.heap.size w w')=>Lv m.code ca cc bm w' (by omega) hbd.code0 (hco.kp (Kp.of_below (e:=none) h) (by decide));generalize hL:Cd.insts m.code=L;have hLl:L.length≤120:=by rw[← hL];have:=Mb m.code;omega
 have hLp:∀ x∈L,0≤x.place:=by rw[← hL];exact Vg _
 have hI:=fun va vc bb p op n w' (h:Below w.heap.size w w') (hi:InsAt w' bb (.slice va L.length vc) L) =>
  Ux ⟨fa1,lcs.length,fc1,fa2,lms.length,fc2,tg,tc,ya,yn,yc,cl,nm,pa,pl,pc,r1,r2,m.locals,st,ca,m.code.length,cc,ha,m.handlers.length,hc,ma,lmp.length,mc,va,vc,T,L⟩ bb bm lcs lms p op n w' ⟨hT,by simp only;omega,hTr.below h,hi⟩ rfl rfl (by omega) hc6 hcf (hcs.kp (Kp.of_below (e:=none) h) (by decide) (by decide)) (hms.kp (Kp.of_below (e:=none) h) (by decide) (by decide) (by decide) (by decide) (by decide))
 have hH:=fun va vc bb x w' (h:Below w.heap.size w w') (hi:InsAt w' bb (.slice va L.length vc) L)=>Rr ⟨fa1,lcs.length,fc1,fa2,lms.length,fc2,tg,tc,ya,yn,yc,cl,nm,pa,pl,pc,r1,r2,m.locals,st,ca,m.code.length,cc,ha,m.handlers.length,hc,ma,lmp.length,mc,va,vc,T,L⟩ bb x w' ⟨hT,by simp only;omega,hTr.below h,hi⟩;have hM:=fun va vc bb w' (h:Below w.heap.size w w') (hi:InsAt w' bb (.slice va L.length vc) L) =>
  Rq ⟨fa1,lcs.length,fc1,fa2,lms.length,fc2,tg,tc,ya,yn,yc,cl,nm,pa,pl,pc,r1,r2,m.locals,st,ca,m.code.length,cc,ha,m.handlers.length,hc,ma,lmp.length,mc,va,vc,T,L⟩ bb bm lmp w' ⟨hT,by simp only;omega,hTr.below h,hi⟩ rfl (by omega) hfr (hmp.kp (Kp.of_below (e:=none) h) (by decide) (by decide))
 have HHA:∀ w',Below w.heap.size w w'→HndsAt w' bm (.slice ha m.handlers.length hc) m.handlers:=fun w' h=>hha.kp (Kp.of_below (e:=none) h) (by decide);unfold Cd.readL Cd.readP Cd.readB at hRd;unfold Adh;rw[hL]at hRd ⊢;rw[hmm]at hM;simp only[PBd.val]at hI hH hM ⊢;generalize (Cd.fieldSum (lcs.map Prod.fst):Int)=nf at *;generalize (lms.map fun p=>p.1.cl)=ow at *;have hBI:∀ x,Ada T nf ow m.locals L x = !Cd.argP T nf ow m.locals L x.op x.n:=fun x=>rfl;have hBH:∀ x,Adm T L (m.code.length:Int) x = !Cd.hndMay T L (m.code.length:Int) x:=fun x=>rfl;generalize hq1:Acd (Ada T nf ow m.locals L) L=q1;generalize hq2:Cd.firstIx (Adm T L (m.code.length:Int)) 0 m.handlers=q2;generalize hq3:Cd.faultOf (Cd.inMaps T L 0 0 m.maps)=q3 at *;have HQ1:Hid (Acd (Ada T nf ow m.locals L) (L.drop 0)=q1):=hq1;have HQ2:Hid (Cd.firstIx (Adm T L (m.code.length:Int)) 0 (m.handlers.drop 0)=q2):=hq2;have HI:=Ac hI;have HH:=Ac hH;have HM:=Ac hM;have HRD:=Ac hRd;have HHA':=Ac HHA;have HBI:=Ac hBI;have HBH:=Ac hBH;have HLP:=Ac hLp;have hB0:=Ak w (O18 fa1 lcs.length fc1 fa2 lms.length fc2 (some ⟨tg,0,none⟩) T.length tc ya yn yc cl nm pa pl pc r1 r2 m.locals st ca m.code.length cc ha m.handlers.length hc ma lmp.length mc none 0 0) (O8 0 0 0);have CB0:=Ah w (O18 fa1 lcs.length fc1 fa2 lms.length fc2 (some ⟨tg,0,none⟩) T.length tc ya yn yc cl nm pa pl pc r1 r2 m.locals st ca m.code.length cc ha m.handlers.length hc ma lmp.length mc none 0 0) (O8 0 0 0);have CR0:=Ag w (O18 fa1 lcs.length fc1 fa2 lms.length fc2 (some ⟨tg,0,none⟩) T.length tc ya yn yc cl nm pa pl pc r1 r2 m.locals st ca m.code.length cc ha m.handlers.length hc ma lmp.length mc none 0 0) (O8 0 0 0);clear hq1 hq2 hq3 hI hH hM hRd HHA hBI hBH hLp hTr hcs hms hco hha hmp hfr hbd hcf hL;by_cases hu:0≤Cd.unread m.code
 ·rw[if_pos hu];have hrd:=Aa HRD _ hB0;rw[if_pos hu,if_pos hu,show decide (Cd.unread m.code<0)=false by simp;omega]at hrd;generalize Cd.unread m.code=u at *;have HR2:=Ac hrd;clear hrd HRD;go_enter Tryz.func120,Tryz.ntmps120;go_wp2_with fail
  refine(Aa HR2).mono ?_;rintro e w1 ⟨va,vc,rfl,_,hb1⟩;have hB1:=QB hB0 hb1;have CR1:=stay hb1 CR0;obtain⟨q0,q1,q2⟩:=fr3 CR1;obtain⟨z0,z1,z2⟩:=cl3 CR1;simp at z0 z1 z2;go_wp2_with fail
  refine bodyPost_ret (v:=.agg #[.int .i64 5,.int .i64 0,.int .i64 u]) (by simp[results,Tryz.results120,go_sem,z0,z1,z2]) rfl ?_;exact⟨rfl,((hB1.setCell (by simp) _).setCell (by simp) _).setCell (by simp) _⟩
 ·rw[if_neg hu];have hrd:=Aa HRD _ hB0;rw[if_neg hu,if_neg hu,show decide (Cd.unread m.code<0)=true by simp;omega]at hrd;have HR2:=Ac hrd;clear hrd HRD hu;generalize hF:(if 0≤q1 then ((5:Int),q1) else if 0≤q2 then (6,q2) else q3)=Fa
  have HF:=Ac hF;clear hF;go_enter Tryz.func120,Tryz.ntmps120;go_wp2_with fail
  refine(Aa HR2).mono ?_;rintro e w1 ⟨va,vc,rfl,hins,hb1⟩;have hB1:=QB hB0 hb1;have CR1:=stay hb1 CR0;have CB1:=stay hb1 CB0;have lB:=lt_of_block CB1;have f14:=Ae CB1 14;obtain⟨a0,a1,a2,a3,a4,a5,a6,a7,a8,a9,a10,a11,a12,a13,a14⟩:=Gm CB1;simp at a0 a1 a2 a3 a4 a5 a6 a7 a8 a9 a10 a11 a12 a13 a14;have CB2:(w1.setCell ⟨w.heap.size,14,none⟩ (.slice va L.length vc)).heap[w.heap.size]?=some (O18 fa1 lcs.length fc1 fa2 lms.length fc2 (some ⟨tg,0,none⟩) T.length tc ya yn yc cl nm pa pl pc r1 r2 m.locals st ca m.code.length cc ha m.handlers.length hc ma lmp.length mc va L.length vc):=by rw[Ai CB1];rfl
  have CR2:(w1.setCell ⟨w.heap.size,14,none⟩ (.slice va L.length vc)).heap[w.heap.size+1]?=some (O8 0 0 0):=by
   rw[Below.heap_setCell _ _ _ _ (by simp)];exact CR1
  have hB2:=hB1.setCell (p:=⟨w.heap.size,14,none⟩) (by simp) (.slice va L.length vc);have hins2:InsAt (w1.setCell ⟨w.heap.size,14,none⟩ (.slice va L.length vc)) (w.heap.size+1+1) (.slice va L.length vc) L :=
   InsAt.kp (by simpa using hins) (Kp.set (b:=w.heap.size+1+1) (i:=14) CB1 (.slice va L.length vc)) (by decide)
  clear hins HR2 hB0 CB0 CR0;have m14:=Ab CB2 14;simp at m14;go_wp2
  go_loopw [27] (fun v wr=>∃ k:Nat,k≤L.length∧v=.int .i64 (k:Int)∧Hid (Acd (Ada T nf ow m.locals L) (L.drop k)=q1)∧Below w.heap.size w wr ∧
    wr.heap[w.heap.size]?=some (O18 fa1 lcs.length fc1 fa2 lms.length fc2 (some ⟨tg,0,none⟩) T.length tc ya yn yc cl nm pa pl pc r1 r2 m.locals st ca m.code.length cc ha m.handlers.length hc ma lmp.length mc va L.length vc)∧wr.heap[w.heap.size+1]?=some (O8 0 0 0)∧InsAt wr (w.heap.size+1+1) (.slice va L.length vc) L)
   (fun v _=>L.length-(intOf v).toNat)
  case atStart=>exact⟨0,by omega,rfl,HQ1,hB2,CB2,CR2,hins2⟩
  case round =>
   clear HQ1 hB2 CB2 CR2 hins2 CB1 CR1 hB1 hb1 m14 a0 a1 a2 a3 a4 a5 a6 a7 a8 a9 a10 a11 a12 a13 a14 f14;obtain⟨k,hk,rfl,HQ,hB,CB,CR,hins⟩:=hrel;have hBs:=hB.size;have lB:=lt_of_block CB;have lR:=lt_of_block CR;obtain⟨m0,m1,m2,m3,m4,m5,m6,m7,m8,m9,m10,m11,m12,m13,m14⟩:=Gm CB;simp at m0 m1 m2 m3 m4 m5 m6 m7 m8 m9 m10 m11 m12 m13 m14;by_cases hkn:k<L.length
   ·obtain⟨g,hg,hglt,_,hcell⟩:=Ao hins (by omega);obtain⟨e1,e2,e3,e4⟩:=Ie L k hkn;have y0:=(hcell (k*3) (by omega)).trans e1;have y1:=(hcell (k*3+1) (by omega)).trans e2;have y2:=(hcell (k*3+2) (by omega)).trans e3;have hd:L.drop k=L[k]::L.drop (k+1):=List.drop_eq_getElem_cons hkn;have hq:=Aa HQ;rw[hd,Acd,Aa HBI]at hq;have hpl:=Aa HLP _ (List.getElem_mem hkn);generalize L[k]=x at *;obtain⟨xp,xo,xn⟩:=x;simp only at y0 y1 y2 hq hpl;have hB1:=hB.alloc hBs (O17 xp xo xn);have hBx:Below wr.heap.size wr (wr.alloc (O17 xp xo xn)):=QN _;have hi1:=hins.kp (Kp.of_below (e:=none) hBx) (by decide);have hc:=Aa HI va vc _ xp xo xn _ hB1 hi1;generalize Cd.argP T nf ow m.locals L xo xn=A at *;have HC:=Ac hc;have HQQ:=Ac hq;have CX1:=Ad wr (O17 xp xo xn);have CB1:=Aj CB (O17 xp xo xn);have CR1:=Aj CR (O17 xp xo xn);have kb:(k:Int)<(L.length:Int):=by omega
    clear hc hq hd hcell e1 e2 e3 e4 HQ hBx;subst hg;cases A with
    | false =>
     have HE:Hid (Fa=(5,xp)):=by
      unfold Hid;have e:q1=xp:=by rw[← Aa HQQ];simp
      rw[← Aa HF,e,if_pos hpl]
     clear HQQ;go_wp2_with fail
     refine(Aa HC).mono ?_;rintro e w2 ⟨rfl,hb2⟩;have hB2:=QB hB1 hb2;have CR2:=stay hb2 CR1;have CX2:=stay hb2 CX1;have x0:=Ab CX2 0;obtain⟨q0,q1,q2⟩:=fr3 CR2;obtain⟨z0,z1,z2⟩:=cl3 CR2;simp at z0 z1 z2 x0;go_wp2_with fail
     refine bodyPost_ret (v:=.agg #[.int .i64 5,.int .i64 0,.int .i64 xp]) (by simp[results,Tryz.results120,go_sem,z0,z1,z2]) rfl ?_;rw[Aa HE];exact⟨rfl,((hB2.setCell (by simp) _).setCell (by simp) _).setCell (by simp) _⟩
    | true =>
     have HG:Hid (Acd (Ada T nf ow m.locals L) (L.drop (k+1))=q1):=by unfold Hid;rw[← Aa HQQ];simp
     clear HQQ;go_wp2_with fail
     refine(Aa HC).mono ?_;rintro e w2 ⟨rfl,hb2⟩;have hB2:=QB hB1 hb2;have CB2:=stay hb2 CB1;have CR2:=stay hb2 CR1;have hi2:=hi1.kp (Kp.of_below (e:=none) hb2) (by decide);clear hb2 hB1 CB1 CR1 CX1 hB CB CR m0 m1 m2 m3 m4 m5 m6 m7 m8 m9 m10 m11 m12 m13 m14 y0 y1 y2 hi1 hins;go_wp2
     go_roundw
     case rel=>exact⟨k+1,by omega,by go_num,HG,hB2,CB2,CR2,hi2⟩
     case measure=>simp[intOf];omega
   ·have HF2:Hid ((if 0≤q2 then ((6:Int),q2) else q3)=Fa):=by
     unfold Hid;have e:q1 = -1:=by rw[← Aa HQ,List.drop_eq_nil_of_le (by omega)];rfl
     rw[← Aa HF,e];exact(if_neg (by omega)).symm
    have kb:¬ (k:Int)<(L.length:Int):=by omega
    clear HQ HF;go_wp2
    go_loopw [43] (fun v wr'=>∃ k:Nat,k≤m.handlers.length∧v=.int .i64 (k:Int)∧Hid (Cd.firstIx (Adm T L (m.code.length:Int)) k (m.handlers.drop k)=q2)∧Below w.heap.size w wr' ∧
      wr'.heap[w.heap.size]?=some (O18 fa1 lcs.length fc1 fa2 lms.length fc2 (some ⟨tg,0,none⟩) T.length tc ya yn yc cl nm pa pl pc r1 r2 m.locals st ca m.code.length cc ha m.handlers.length hc ma lmp.length mc va L.length vc)∧wr'.heap[w.heap.size+1]?=some (O8 0 0 0)∧InsAt wr' (w.heap.size+1+1) (.slice va L.length vc) L)
     (fun v _=>m.handlers.length-(intOf v).toNat)
    case atStart=>exact⟨0,by omega,rfl,HQ2,hB,CB,CR,hins⟩
    case round =>
     clear HQ2 hB CB CR hins m0 m1 m2 m3 m4 m5 m6 m7 m8 m9 m10 m11 m12 m13 m14 kb hk hkn lB lR hBs;obtain⟨j,hk,rfl,HQ,hB,CB,CR,hins⟩:=hrel;have hBs:=hB.size;have lB:=lt_of_block CB;have lR:=lt_of_block CR;obtain⟨m0,m1,m2,m3,m4,m5,m6,m7,m8,m9,m10,m11,m12,m13,m14⟩:=Gm CB;simp at m0 m1 m2 m3 m4 m5 m6 m7 m8 m9 m10 m11 m12 m13 m14;by_cases hkn:j<m.handlers.length
     ·obtain⟨g,hg,hglt,_,hcell⟩:=Ao (Aa HHA' _ hB) (by omega);have y0:=(hcell _ (Ax m.handlers j hkn 0 (by omega)).2).trans (Ax m.handlers j hkn 0 (by omega)).1;have y1:=(hcell _ (Ax m.handlers j hkn 1 (by omega)).2).trans (Ax m.handlers j hkn 1 (by omega)).1;have y2:=(hcell _ (Ax m.handlers j hkn 2 (by omega)).2).trans (Ax m.handlers j hkn 2 (by omega)).1;have y3:=(hcell _ (Ax m.handlers j hkn 3 (by omega)).2).trans (Ax m.handlers j hkn 3 (by omega)).1;have hd:m.handlers.drop j=m.handlers[j]::m.handlers.drop (j+1):=List.drop_eq_getElem_cons hkn;have hq:=Aa HQ;rw[hd,Cd.firstIx,Aa HBH]at hq;generalize m.handlers[j]=x at *;obtain⟨x1,x2,x3,x4⟩:=x;simp at y0 y1 y2 y3;have hB1:=hB.alloc hBs (O21 x1 x2 x3 x4);have hBx:Below wr.heap.size wr (wr.alloc (O21 x1 x2 x3 x4)):=QN _;have hi1:=hins.kp (Kp.of_below (e:=none) hBx) (by decide);have hc:=Aa HH va vc _ ⟨x1,x2,x3,x4⟩ _ hB1 hi1;simp only at hc;generalize Cd.hndMay T L (m.code.length:Int) ⟨x1,x2,x3,x4⟩=A at *;have HC:=Ac hc;have HQQ:=Ac hq;have CB1:=Aj CB (O21 x1 x2 x3 x4);have CR1:=Aj CR (O21 x1 x2 x3 x4);have kb:(j:Int)<(m.handlers.length:Int):=by omega
      clear hc hq hd hcell HQ hBx;subst hg;cases A with
      | false =>
       have HE:Hid (Fa=(6,(j:Int))):=by
        unfold Hid;have e:q2=(j:Int):=by rw[← Aa HQQ];simp
        rw[← Aa HF2,e,if_pos (by omega)]
       clear HQQ;go_wp2_with fail
       refine(Aa HC).mono ?_;rintro e w2 ⟨rfl,hb2⟩;have hB2:=QB hB1 hb2;have CR2:=stay hb2 CR1;obtain⟨q0,q1,q2⟩:=fr3 CR2;obtain⟨z0,z1,z2⟩:=cl3 CR2;simp at z0 z1 z2;go_wp2_with fail
       refine bodyPost_ret (v:=.agg #[.int .i64 6,.int .i64 0,.int .i64 (j:Int)]) (by simp[results,Tryz.results120,go_sem,z0,z1,z2]) rfl ?_;rw[Aa HE];exact⟨rfl,((hB2.setCell (by simp) _).setCell (by simp) _).setCell (by simp) _⟩
      | true =>
       have HG:Hid (Cd.firstIx (Adm T L (m.code.length:Int)) (j+1) (m.handlers.drop (j+1))=q2):=by unfold Hid;rw[← Aa HQQ];simp
       clear HQQ;go_wp2_with fail
       refine(Aa HC).mono ?_;rintro e w2 ⟨rfl,hb2⟩;have hB2:=QB hB1 hb2;have CB2:=stay hb2 CB1;have CR2:=stay hb2 CR1;have hi2:=hi1.kp (Kp.of_below (e:=none) hb2) (by decide);clear hb2 hB1 CB1 CR1 hB CB CR m0 m1 m2 m3 m4 m5 m6 m7 m8 m9 m10 m11 m12 m13 m14 y0 y1 y2 y3 hi1 hins;go_wp2
       go_roundw
       case rel=>exact⟨j+1,by omega,by go_num,HG,hB2,CB2,CR2,hi2⟩
       case measure=>simp[intOf];omega
     ·have HE:Hid (q3=Fa):=by
       unfold Hid;have e:q2 = -1:=by rw[← Aa HQ,List.drop_eq_nil_of_le (by omega)];rfl
       rw[← Aa HF2,e,if_neg (by omega)]
      have kb:¬ (j:Int)<(m.handlers.length:Int):=by omega
      have hm:=Aa HM va vc _ _ hB hins;have HMM:=Ac hm;clear hm HQ;go_wp2_with fail
      refine(Aa HMM).mono ?_;rintro e w2 ⟨rfl,hb2⟩;have hB2:=hB.trans (hb2.mono hBs);have CR2:=stay hb2 CR;obtain⟨q0,q1,q2⟩:=fr3 CR2;obtain⟨z0,z1,z2⟩:=cl3 CR2;simp at z0 z1 z2;go_wp2_with fail
      refine bodyPost_ret (v:=.agg #[.int .i64 q3.1,.int .i64 0,.int .i64 q3.2]) (by simp[results,Tryz.results120,go_sem,z0,z1,z2]) rfl ?_;rw[Aa HE];exact⟨rfl,((hB2.setCell (by simp) _).setCell (by simp) _).setCell (by simp) _⟩
def Zw (n:Int):UInt8:=UInt8.ofNat (n % 256).toNat
def Acu (t:Int × Int):List UInt8:=[Zw t.1,Zw t.2]
def Aah (l:List (Int × Int)):List UInt8:=l.flatMap Acu
def Acr (c:Rd.Cls):List UInt8:=Zw c.above::Zw (c.fields.length:Int)::Aah c.fields
def Adk (h:Rd.Hnd):List UInt8:=[Zw h.frm,Zw h.til,Zw h.target,Zw h.cl]
def Adb (l:List Rd.Hnd):List UInt8:=Zw (l.length:Int)::l.flatMap Adk
def Abr (m:Rd.Mp):List UInt8:=Zw m.place::(Aah m.locals++Zw (m.stack.length:Int)::Aah m.stack)
def Ab7 (l:List Rd.Mp):List UInt8:=Zw (l.length:Int)::l.flatMap Abr
def Adr (m:Rd.Mth):List UInt8 :=
 [Zw m.cl,Zw m.name,Zw (m.params.length:Int)]++Aah m.params++Acu m.result++[Zw m.locals,Zw m.stack,Zw (m.code.length:Int)]++m.code.map Zw++Adb m.handlers
def Aby (m:Rd.Mth):List UInt8:=Adr m++Ab7 m.maps
def Aei (cs:List Rd.Cls) (n:Int):List UInt8:=[83,77,Zw (cs.length:Int)]++cs.flatMap Acr++[Zw n]
def Adu (f:Rd.Fil):List UInt8:=Aei f.classes (f.methods.length:Int)++f.methods.flatMap Aby
def Seg (s:List UInt8) (i j:Int) (l:List UInt8):Prop:=0≤i∧i≤j∧j≤(s.length:Int)∧(s.drop i.toNat).take (j-i).toNat=l
theorem Seg.app {s:List UInt8}{i j k:Int}{l r:List UInt8} (h:Seg s i j l) (g:Seg s j k r):Seg s i k (l++r):=by
 obtain⟨a,b,c,d⟩:=h;obtain⟨a',b',c',d'⟩:=g;refine⟨a,by omega,c',?_⟩;rw[show (k-i).toNat=(j-i).toNat+(k-j).toNat by omega,List.take_add,d,List.drop_drop,show i.toNat+(j-i).toNat=j.toNat by omega,d']
theorem Seg.nil {s:List UInt8}{i:Int} (h0:0≤i) (h1:i≤(s.length:Int)):Seg s i i []:=⟨h0,by omega,h1,by simp⟩
theorem Seg.one {s:List UInt8}{i:Int} (h0:0≤i) (h1:i<(s.length:Int)):Seg s i (i+1) [Zw (Rf.at' s i)]:=by
 refine⟨h0,by omega,by omega,?_⟩;have hl:i.toNat<s.length:=by omega
 rw[show (i+1-i).toNat=1 by omega,List.drop_eq_getElem_cons hl];simp only[List.take_succ_cons,List.take_zero,List.cons.injEq,and_true];unfold Rf.at' Zw;rw[if_neg (by omega),if_neg (by omega),List.getElem?_eq_getElem hl];simp only[Option.getD_some];have:=(s[i.toNat]).toNat_lt;rw[show (((s[i.toNat]).toNat:Int) % 256).toNat=(s[i.toNat]).toNat by omega]
 simp
theorem Zp {s:List UInt8}{i:Int} (h:0≤Rf.at' s i):0≤i∧i<(s.length:Int):=by
 unfold Rf.at' at h;by_cases h1:i<0
 ·rw[if_pos h1]at h;omega
 ·rw[if_neg h1]at h;by_cases h2:(s.length:Int)≤i
  ·rw[if_pos h2]at h;omega
  ·omega
theorem Ff {s:List UInt8}{i a b:Int} (ha:0≤a) (h:0≤Rf.cnt s i a b):Rf.cnt s i a b=Rf.at' s i∧0≤i∧i<(s.length:Int):=by
 unfold Rf.cnt at h ⊢;by_cases h1:Rf.at' s i<a
 ·rw[if_pos h1]at h;omega
 ·rw[if_neg h1]at h ⊢;by_cases h2:b<Rf.at' s i
  ·rw[if_pos h2]at h;omega
  ·rw[if_neg h2];exact⟨rfl,Zp (by omega)⟩
theorem Qn (s:List UInt8) (i:Int) (h0:0≤i) (k:Nat) (h:i+2*(k:Int)≤(s.length:Int)):Seg s i (i+2*(k:Int)) (Aah (Rf.tys s i k)):=by
 induction k with
 | zero=>simpa[Rf.tys,Aah] using Seg.nil h0 (by omega)
 | succ j ih =>
  have a:=ih (by omega);have b:=(Seg.one (s:=s) (i:=i+2*(j:Int)) (by omega) (by omega)).app (Seg.one (s:=s) (i:=i+2*(j:Int)+1) (by omega) (by omega));have c:=a.app b;rw[Rf.tys,Aah,List.flatMap_append];rw[show i+2*((j+1:Nat):Int)=i+2*(j:Int)+1+1 by omega]
  simpa[Aah,Acu] using c
theorem Vx (s:List UInt8) (i:Int) (h0:0≤i) (k:Nat) (h:i+(k:Int)≤(s.length:Int)):Seg s i (i+(k:Int)) ((Rf.codeTo s i k).map Zw):=by
 induction k with
 | zero=>simpa[Rf.codeTo] using Seg.nil h0 (by omega)
 | succ j ih =>
  have c:=(ih (by omega)).app (Seg.one (s:=s) (i:=i+(j:Int)) (by omega) (by omega));rw[Rf.codeTo,List.map_append];rw[show i+((j+1:Nat):Int)=i+(j:Int)+1 by omega]
  simpa using c
theorem Tn (s:List UInt8) (i:Int) (h0:0≤i) (k:Nat) (h:i+1+4*(k:Int)≤(s.length:Int)):Seg s (i+1) (i+1+4*(k:Int)) ((Rf.hndTo s i k).flatMap Adk):=by
 induction k with
 | zero=>simpa[Rf.hndTo] using Seg.nil (s:=s) (i:=i+1) (by omega) (by omega)
 | succ j ih =>
  have b:=(((Seg.one (s:=s) (i:=i+1+4*(j:Int)) (by omega) (by omega)).app (Seg.one (s:=s) (i:=i+1+4*(j:Int)+1) (by omega) (by omega))).app
   (Seg.one (s:=s) (i:=i+1+4*(j:Int)+1+1) (by omega) (by omega))).app (Seg.one (s:=s) (i:=i+1+4*(j:Int)+1+1+1) (by omega) (by omega))
  have c:=(ih (by omega)).app b;rw[Rf.hndTo,List.flatMap_append];rw[show i+1+4*((j+1:Nat):Int)=i+1+4*(j:Int)+1+1+1+1 by omega];rw[show i+1+4*(j:Int)+1+1+1=i+1+4*(j:Int)+3 by omega,show i+1+4*(j:Int)+1+1=i+1+4*(j:Int)+2 by omega]at *
  simpa[Adk,Rf.hndAt] using c
theorem V1 (s:List UInt8) (i:Int) (h0:0≤i) (h:0≤(Rf.hnds s i).2):Seg s i (Rf.hnds s i).2 (Adb (Rf.hnds s i).1):=by
 unfold Rf.hnds at h ⊢;by_cases h1:Rf.cnt s i 0 4<0
 ·rw[if_pos h1]at h;simp at h
 ·rw[if_neg h1]at h ⊢;by_cases h2:(s.length:Int)<i+1+4*Rf.cnt s i 0 4
  ·rw[if_pos h2]at h;simp at h
  ·rw[if_neg h2];obtain⟨e,_,hl⟩:=Ff (by omega) (show 0≤Rf.cnt s i 0 4 by omega);have hc:((Rf.cnt s i 0 4).toNat:Int)=Rf.cnt s i 0 4:=by omega
   have b:=Tn s i h0 (Rf.cnt s i 0 4).toNat (by rw[hc];omega);rw[hc]at b;have a:=(Seg.one (s:=s) (i:=i) h0 hl).app b;simp only;unfold Adb;rw[Id,hc,e]at *;exact a
theorem W7 (s:List UInt8) (i:Int) (h0:0≤i) (h:0≤(Rf.mth s i).2):Seg s i (Rf.mth s i).1.mapsAt (Adr (Rf.mth s i).1.m):=by
 unfold Rf.mth at h ⊢;dsimp only at h ⊢;have n1:¬ (0:Int)≤-1:=by omega
 by_cases h1:Rf.cnt s (i+2) 0 4<0
 ·rw[if_pos h1]at h;exact absurd h n1
 rw[if_neg h1]at h ⊢;obtain⟨e1,_,l1⟩:=Ff (by omega) (show 0≤Rf.cnt s (i+2) 0 4 by omega);generalize Rf.cnt s (i+2) 0 4=p at *;have hp:((p.toNat:Nat):Int)=p:=by omega
 generalize hj:i+3+2*p=j at *;by_cases h2:Rf.cnt s (j+2) 0 8<0
 ·rw[if_pos h2]at h;exact absurd h n1
 rw[if_neg h2]at h ⊢;obtain⟨e2,_,l2⟩:=Ff (by omega) (show 0≤Rf.cnt s (j+2) 0 8 by omega);generalize Rf.cnt s (j+2) 0 8=lo at *;by_cases h3:Rf.cnt s (j+3) 0 8<0
 ·rw[if_pos h3]at h;exact absurd h n1
 rw[if_neg h3]at h ⊢;obtain⟨e3,_,l3⟩:=Ff (by omega) (show 0≤Rf.cnt s (j+3) 0 8 by omega);generalize Rf.cnt s (j+3) 0 8=st at *;by_cases h4:Rf.cnt s (j+4) 1 120<0
 ·rw[if_pos h4]at h;exact absurd h n1
 rw[if_neg h4]at h ⊢;obtain⟨e4,_,l4⟩:=Ff (by omega) (show 0≤Rf.cnt s (j+4) 1 120 by omega);generalize Rf.cnt s (j+4) 1 120=n at *;have hn:((n.toNat:Nat):Int)=n:=by omega
 by_cases h5:(s.length:Int)<j+5+n
 ·rw[if_pos h5]at h;exact absurd h n1
 rw[if_neg h5]at h ⊢;by_cases h6:(Rf.hnds s (j+5+n)).2<0
 ·rw[if_pos h6]at h;exact absurd h n1
 rw[if_neg h6]at h ⊢;simp only;have a1:=((Seg.one (s:=s) (i:=i) h0 (by omega)).app (Seg.one (s:=s) (i:=i+1) (by omega) (by omega))).app (Seg.one (s:=s) (i:=i+1+1) (by omega) (by omega));have a2:=Qn s (i+3) (by omega) p.toNat (by rw[hp];omega);rw[hp,hj]at a2;have a3:=(Seg.one (s:=s) (i:=j) (by omega) (by omega)).app (Seg.one (s:=s) (i:=j+1) (by omega) (by omega));have a4:=((Seg.one (s:=s) (i:=j+2) (by omega) (by omega)).app (Seg.one (s:=s) (i:=j+2+1) (by omega) (by omega))).app (Seg.one (s:=s) (i:=j+2+1+1) (by omega) (by omega));have a5:=Vx s (j+5) (by omega) n.toNat (by rw[hn];omega);rw[hn]at a5;have a6:=V1 s (j+5+n) (by omega) (by omega);rw[show i+1+1+1=i+3 by omega,show i+1+1=i+2 by omega]at a1;rw[show j+1+1=j+2 by omega]at a3;rw[show j+2+1+1+1=j+5 by omega,show j+2+1+1=j+4 by omega,show j+2+1=j+3 by omega]at a4;have a:=((((a1.app a2).app a3).app a4).app a5).app a6;unfold Adr;simp only;rw[← e1,← e2,← e3,← e4]at a;rw[Bv,Kw,hp,hn]
 simpa[Acu] using a
def Segs (s:List UInt8) (e:Int):Int→List Rf.Mth→Prop
 | i,[]=>i=e
 | i,x::r=>Seg s i x.mapsAt (Adr x.m)∧Segs s e x.fin r
theorem Segs.snoc {s:List UInt8}{i e:Int}{l:List Rf.Mth}{x:Rf.Mth} (h:Segs s e i l) (h1:Seg s e x.mapsAt (Adr x.m)):Segs s x.fin i (l++[x]):=by
 induction l generalizing i with
 | nil=>rw[Segs]at h;subst h;exact⟨h1,rfl⟩
 | cons y r ih=>exact⟨h.1,ih h.2⟩
theorem Wb (s:List UInt8) (n:Nat) (i:Int) (_hi:0≤i) (h:0≤(Rf.rep (Rf.mth s) n i).2):Segs s (Rf.rep (Rf.mth s) n i).2 i (Rf.rep (Rf.mth s) n i).1∧(Rf.rep (Rf.mth s) n i).1.length=n:=by
 induction n with
 | zero=>simp[Rf.rep,Segs]
 | succ k ih =>
  unfold Rf.rep at h ⊢;by_cases h1:(Rf.rep (Rf.mth s) k i).2<0
  ·rw[if_pos h1]at h;simp at h
  ·rw[if_neg h1]at h ⊢;by_cases h2:(Rf.mth s (Rf.rep (Rf.mth s) k i).2).2<0
   ·rw[if_pos h2]at h;simp at h
   ·rw[if_neg h2]at h ⊢;simp only at h ⊢;obtain⟨g1,g2,g3⟩:=Tj s (Rf.rep (Rf.mth s) k i).2 (by omega) h;obtain⟨i1,i2⟩:=ih (by omega);rw[← g3];exact⟨i1.snoc (W7 s _ (by omega) h),by simp[i2]⟩
theorem Wz (s:List UInt8) (n:Nat) (i:Int) (hi:0≤i) (h:0≤(Rf.rep (Rf.cls s) n i).2) (hl:(Rf.rep (Rf.cls s) n i).2≤(s.length:Int)) :
  Seg s i (Rf.rep (Rf.cls s) n i).2 ((Rf.rep (Rf.cls s) n i).1.flatMap Acr)∧(Rf.rep (Rf.cls s) n i).1.length=n:=by
 induction n with
 | zero =>
  simp only[Rf.rep]at hl ⊢;exact⟨by simpa using Seg.nil hi hl,rfl⟩
 | succ k ih =>
  unfold Rf.rep at h hl ⊢;by_cases h1:(Rf.rep (Rf.cls s) k i).2<0
  ·rw[if_pos h1]at h;simp at h
  ·rw[if_neg h1]at h hl ⊢;by_cases h2:(Rf.cls s (Rf.rep (Rf.cls s) k i).2).2<0
   ·rw[if_pos h2]at h;simp at h
   ·rw[if_neg h2]at h hl ⊢;simp only at h hl ⊢;have g:=Zk s (Rf.rep (Rf.cls s) k i).2 (by omega) h;obtain⟨i1,i2⟩:=ih (by omega) (by omega);generalize Rf.rep (Rf.cls s) k i=q at *;refine⟨?_,by simp[i2]⟩;rw[List.flatMap_append];refine i1.app ?_;unfold Rf.cls at h2 hl ⊢;by_cases h3:Rf.cnt s (q.2+1) 0 4<0
    ·rw[if_pos h3]at h2;simp at h2
    ·rw[if_neg h3]at h2 hl ⊢;obtain⟨e,_,l1⟩:=Ff (by omega) (show 0≤Rf.cnt s (q.2+1) 0 4 by omega);generalize Rf.cnt s (q.2+1) 0 4=p at *;have hp:((p.toNat:Nat):Int)=p:=by omega
     simp only at hl ⊢;have a:=(Seg.one (s:=s) (i:=q.2) (by omega) (by omega)).app (Seg.one (s:=s) (i:=q.2+1) (by omega) (by omega));have b:=Qn s (q.2+2) (by omega) p.toNat (by rw[hp];omega);rw[hp]at b;rw[show q.2+1+1=q.2+2 by omega]at a;have c:=a.app b;simp only[List.flatMap_cons,List.flatMap_nil,List.append_nil];unfold Acr;simp only;rw[← e]at c;rw[Bv,hp]
     simpa using c
theorem Ww (s:List UInt8) (h:(Rf.fil s).2.2=(s.length:Int)):∃ i,Seg s 0 i (Aei (Rf.fil s).1 ((Rf.fil s).2.1.length:Int))∧Segs s (s.length:Int) i (Rf.fil s).2.1:=by
 unfold Rf.fil at h ⊢;have n1:¬ (-1:Int)=(s.length:Int):=by omega
 by_cases h1:Rf.at' s 0≠83
 ·rw[if_pos h1]at h;exact absurd h n1
 rw[if_neg h1]at h ⊢;by_cases h2:Rf.at' s 1≠77
 ·rw[if_pos h2]at h;exact absurd h n1
 rw[if_neg h2]at h ⊢;by_cases h3:Rf.cnt s 2 0 6<0
 ·rw[if_pos h3]at h;exact absurd h n1
 rw[if_neg h3]at h ⊢;dsimp only at h ⊢;obtain⟨e3,_,l3⟩:=Ff (by omega) (show 0≤Rf.cnt s 2 0 6 by omega);generalize Rf.cnt s 2 0 6=n at *;by_cases h4:(Rf.rep (Rf.cls s) n.toNat 3).2<0
 ·rw[if_pos h4]at h;exact absurd h n1
 rw[if_neg h4]at h ⊢;by_cases h5:Rf.cnt s (Rf.rep (Rf.cls s) n.toNat 3).2 1 6<0
 ·rw[if_pos h5]at h;exact absurd h n1
 rw[if_neg h5]at h ⊢;obtain⟨e5,_,l5⟩:=Ff (by omega) (show 0≤Rf.cnt s (Rf.rep (Rf.cls s) n.toNat 3).2 1 6 by omega);have hc:=Wz s n.toNat 3 (by omega) (by omega) (by omega);generalize Rf.rep (Rf.cls s) n.toNat 3=q at *;generalize Rf.cnt s q.2 1 6=k at *;by_cases h6:(Rf.rep (Rf.mth s) k.toNat (q.2+1)).2<0
 ·rw[if_pos h6]at h;exact absurd h n1
 rw[if_neg h6]at h ⊢;have hm:=Wb s k.toNat (q.2+1) (by omega) (by omega);generalize Rf.rep (Rf.mth s) k.toNat (q.2+1)=r at *;simp only at h ⊢;refine⟨q.2+1,?_,by rw[← h];exact hm.1⟩;have a:=((Seg.one (s:=s) (i:=0) (by omega) (by omega)).app (Seg.one (s:=s) (i:=0+1) (by omega) (by omega))).app (Seg.one (s:=s) (i:=0+1+1) (by omega) (by omega));have b:=(a.app hc.1).app (Seg.one (s:=s) (i:=q.2) (by omega) (by omega));have g1:Rf.at' s 0=83:=by simpa using h1
 have g2:Rf.at' s (0+1)=77:=by simpa using h2
 have g3:Rf.at' s (0+1+1)=n:=by rw[e3];rfl
 rw[g1,g2,g3,← e5]at b;unfold Aei;rw[hc.2,hm.2,show ((n.toNat:Nat):Int)=n by omega,show ((k.toNat:Nat):Int)=k by omega]
 simpa[Zw] using b
theorem Qb {s:ByteArray}{i j:Int}{l:List UInt8} (h:Seg s.data.toList i j l):(s.extract i.toNat j.toNat).data.toList=l:=by
 obtain⟨a,b,c,d⟩:=h;rw[ByteArray.data_extract,Array.toList_extract,List.extract_eq_take_drop];rw[← d]
 congr 1
 omega
theorem Ij {a b:ByteArray} (h:a.data.toList=b.data.toList):a=b:=by
 cases a;cases b
 congr 1
 exact Array.toList_inj.1 h
theorem Vh {e i:Int}{l:List Rf.Mth} (h:Rf.chain e i l) (h0:0≤i):∀ x∈l,0≤x.fin∧x.fin≤e:=by
 induction l generalizing i with
 | nil=>simp
 | cons y r ih =>
  obtain⟨a,b,c⟩:=h;have:=Oc c;intro x hx;simp only[List.mem_cons]at hx;rcases hx with rfl|hx
  ·omega
  ·exact ih c (by omega) x hx
theorem Tryz.infoU8:(Tryz.prog.info? 5).map (fun i=>(i.zero,i.size,i.bytes))=some (some (.int .u8 0),1,1):=by kernel_rfl
def Ad4 (l:List UInt8):List Value:=l.map fun b=>.int .u8 (b.toNat:Int)
theorem Aer (x:Int):((Zw x).toNat:Int)=x % 256:=by
 unfold Zw;have h0:=Int.emod_nonneg x (show (256:Int)≠0 by omega);have h1:=Int.emod_lt_of_pos x (show (0:Int)<256 by omega);rw[UInt8.toNat_ofNat'];rw[Nat.mod_eq_of_lt (by omega)];omega
structure WG (n:Nat) (w w':World):Prop where
 bel:Below n w w'
 kp:∀ (k:Nat) (cs:Array Value) (t:TypeId),w.heap[k]?=some (.cells cs t (0,0))→t≠5→t≠99→w'.heap[k]?=some (.cells cs t (0,0))
theorem WG.refl (n:Nat) (w:World):WG n w w:=⟨Below.refl _ _,fun _ _ _ h _ _=>h⟩
theorem WG.trans {n:Nat}{a b c:World} (h:WG n a b) (k:WG n b c):WG n a c:=⟨h.bel.trans k.bel,fun i cs t hc h1 h2=>k.kp i cs t (h.kp i cs t hc h1 h2) h1 h2⟩
theorem WG.alloc {n:Nat}{a b:World} (h:WG n a b) (hn:n≤b.heap.size) (o:Obj):WG n a (b.alloc o) :=
 ⟨h.bel.alloc hn o,fun i cs t hc h1 h2=>by
  have:=h.kp i cs t hc h1 h2;rw[Below.heap_alloc b o i (lt_of_block this)];exact this⟩
def WrAt (w:World) (n B:Nat) (l:List UInt8):Prop:=∃ v,w.heap[B]?=some (.cells #[v] 99 (0,0))∧n≤B∧w.ownsRow n 5 1 v l.length (Ad4 l)
theorem WrAt.alloc {w:World}{n B:Nat}{l:List UInt8} (h:WrAt w n B l) (o:Obj):WrAt (w.alloc o) n B l:=by
 obtain⟨v,h1,h2,h3⟩:=h;exact⟨v,by rw[Below.heap_alloc w o B (lt_of_block h1)];exact h1,h2,h3.alloc o⟩
theorem WrAt.lt {w:World}{n B:Nat}{l:List UInt8} (h:WrAt w n B l):n≤B∧B<w.heap.size:=by
 obtain⟨v,h1,h2,_⟩:=h;exact⟨h2,lt_of_block h1⟩
theorem WG.grown {n:Nat}{a b c:World}{v:Value}{m:Nat}{xs:List Value} (h:WG n a b) (hg:b.grownBy c v.ownBlock) (ho:b.ownsRow n 5 1 v m xs) (hn:n≤b.heap.size):WG n a c :=
 ⟨h.bel.grown hg hn (fun k e=>(ho.lt k e).1),fun k cs t hc h1 h2=>Kp.of_grown (b:=0) hg ho k cs t (Nat.zero_le _) (h.kp k cs t hc h1 h2) (by simpa using h1)⟩
theorem WG.set {n B i:Nat}{a b:World}{cs:Array Value} (h:WG n a b) (hB:b.heap[B]?=some (.cells cs 99 (0,0))) (hn:n≤B) (u:Value):WG n a (b.setCell ⟨B,i,none⟩ u) :=
 ⟨h.bel.setCell (by simpa using hn) u,fun k cs' t hc h1 h2=>Kp.set (b:=0) hB u k cs' t (Nat.zero_le _) (h.kp k cs' t hc h1 h2) (by simpa using h2)⟩
theorem Ch {n b size m:Nat}{t:TypeId}{v:Value}{xs:List Value}{w w':World} (h:w.ownsRow b t size v m xs) (hg:WG n w w') (h1:t≠5) (h2:t≠99):w'.ownsRow b t size v m xs:=by
 obtain⟨e1,e2|⟨g,cap,cur,a,c,d,r⟩⟩:=h
 ·exact⟨e1,.inl e2⟩
 ·exact⟨e1,.inr ⟨g,cap,cur,a,c,hg.kp g cur t d h1 h2,r⟩⟩
theorem Afb (l r:List UInt8):Ad4 (l++r)=Ad4 l++Ad4 r:=by simp[Ad4]
theorem Abi (l:List (Int × Int)):(Aah l).length=2*l.length:=by
 induction l with
 | nil=>rfl
 | cons x r ih=>simp[Aah,Acu]at ih ⊢;omega
theorem Bj (n B:Nat) (l:List UInt8) (x:Int) (w:World) (hl:l.length≤100000) (hW:WrAt w n B l) :
  Calls Tryz.prog 43 #[.pointer (some ⟨B,0,none⟩),.int .i64 x] w fun e w'=>e=.returned (.tuple #[])∧WrAt w' n B (l++[Zw x])∧WG n w w':=by
 obtain⟨v,hb,hnB,hown⟩:=hW;obtain⟨i0,hi,hz0,hz1,hz2⟩:=info_parts Tryz.infoU8;have c0:=Ab hb 0;have f0:=Ae hb 0;have lB:=lt_of_block hb;simp at c0;obtain⟨va,vc,rfl⟩:=Af hown;go_enter Tryz.func43,Tryz.ntmps43;go_wp2_with (at_builtin;refine wpList_append_own _ rfl _ _ 97 rfl n 5 i0 _ 1 1 Tryz.underlying97 hi hz0 hz1 hz2 rfl (by decide) _ _ _ rfl (hown.alloc _) ⟨w.heap.size,0,none⟩ 1 1 [.int .u8 (x % 256)] rfl rfl ?c1 ?c2 ?c3 ?c4 ?c5 ?_)
 case c1=>exact Au _ _ _ _ rfl
 case c2=>intro u hu;simp at hu;subst hu;rfl
 case c3=>unfold maxLen;omega
 case c4=>omega
 case c5=>simp;omega
 intro v' w2 hown2 hgrow _;obtain⟨va',vc',rfl⟩:=Af hown2;have hb1:=Aj hb (O22 (x % 256));have hown1:=hown.alloc (O22 (x % 256));have hG:=((WG.refl n w).alloc (by omega) (O22 (x % 256))).grown hgrow hown1 (by simp;omega);have hb2:w2.heap[B]?=some (O23 va l.length vc):=Kp.of_grown (b:=0) hgrow hown1 B _ _ (Nat.zero_le _) hb1 (by decide);have c2:=Ab hb2 0;have f2:=Ae hb2 0;have lB2:=lt_of_block hb2;simp at c2;clear c0 f0 lB;have hown3:(w2.setCell ⟨B,0,none⟩ (.slice va' (l.length+1) vc')).ownsRow n 5 1 (.slice va' (l.length+1) vc') (l++[Zw x]).length (Ad4 (l++[Zw x])):=by
  have:w2.ownsRow n 5 1 (.slice va' (l.length+1) vc') (l++[Zw x]).length (Ad4 (l++[Zw x])):=by
   rw[Afb,List.length_append]
   simpa[Ad4,Aer] using hown2
  exact Av this (Kp.set (b:=n) hb2 (.slice va' (l.length+1) vc')) (by decide)
 have hb3:(w2.setCell ⟨B,0,none⟩ (.slice va' (l.length+1) vc')).heap[B]?=some (O23 va' (l.length+1) vc'):=by rw[Ai hb2];rfl
 have hG3:=hG.set (i:=0) hb2 hnB (.slice va' (l.length+1) vc');go_wp2
 go_end0
 exact⟨rfl,⟨_,hb3,hnB,hown3⟩,hG3⟩
theorem Lt (n B:Nat) (l:List UInt8) (k x:Int) (w:World) (hl:l.length+2≤100000) (hW:WrAt w n B l) :
  Calls Tryz.prog 82 #[.pointer (some ⟨B,0,none⟩),.agg #[.int .i64 k,.int .i64 x]] w fun e w'=>e=.returned (.tuple #[])∧WrAt w' n B (l++Acu (k,x))∧WG n w w':=by
 have C0:=Ad w (O7 k x);have hlt:=hW.lt;have G0:=(WG.refl n w).alloc (by omega) (O7 k x);have hW0:=hW.alloc (O7 k x);go_enter Tryz.func82,Tryz.ntmps82
 (go_wp2_with fail);refine(Bj n B l k _ (by omega) hW0).mono ?_;rintro e w1 ⟨rfl,hW1,hg1⟩
 have C1:=hg1.kp _ _ _ C0 (by decide) (by decide);have x1:=Ab C1 1;have l1:=lt_of_block C1;simp at x1
 (go_wp2_with fail);refine(Bj n B (l++[Zw k]) x _ (by simp;omega) hW1).mono ?_;rintro e w2 ⟨rfl,hW2,hg2⟩
 go_wp2
 go_end0
 exact⟨rfl,by simpa[Acu] using hW2,(G0.trans hg1).trans hg2⟩
theorem Kk (n B b:Nat) (l:List UInt8) (ts:List (Int × Int)) (a:Option Addr) (m c:Nat) (w:World) (hl:l.length+2*ts.length≤100000) (hW:WrAt w n B l) (hT:TysAt w b (.slice a m c) ts) :
  Calls Tryz.prog 44 #[.pointer (some ⟨B,0,none⟩),.slice a m c] w fun e w'=>e=.returned (.tuple #[])∧WrAt w' n B (l++Aah ts)∧WG n w w':=by
 obtain⟨xa,xc,hsh⟩:=Af hT;simp only[Value.slice.injEq]at hsh;obtain⟨rfl,hn1,rfl⟩:=hsh;subst hn1;go_enter Tryz.func44,Tryz.ntmps44;go_wp2
 go_loopw [8] (fun v wr=>∃ k:Nat,k≤ts.length∧v=.int .i64 (k:Int)∧WrAt wr n B (l++Aah (ts.take k))∧WG n w wr)
  (fun v _=>ts.length-(intOf v).toNat)
 case atStart=>exact⟨0,by omega,rfl,by simpa[Aah] using hW,WG.refl n w⟩
 case round =>
  obtain⟨k,hk,rfl,hWr,hG⟩:=hrel;have hlt:=hWr.lt;by_cases hkn:k<ts.length
  ·obtain⟨g,hg,hglt,hbg,hcell⟩:=Ao (Ch hT hG (by decide) (by decide)) (by omega);obtain⟨e1,e2,e3⟩:=Az ts k hkn;have x0:=hcell (k*2) (by omega);have x1:=hcell (k*2+1) (by omega);rw[e1]at x0;rw[e2]at x1;have hd:ts.take (k+1)=ts.take k++[ts[k]]:=by rw[List.take_succ_eq_append_getElem hkn]
   have hTL:(ts.take k).length=k:=by simp;omega
   generalize ts[k]=t at *;obtain⟨t1,t2⟩:=t;simp only at x0 x1;have hTy:=Abi (ts.take k);rw[hTL]at hTy;have HD:Hid (l++Aah (ts.take (k+1))=l++Aah (ts.take k)++Acu (t1,t2)):=by unfold Hid;rw[hd];simp[Aah]
   have hLL:(l++Aah (ts.take k)).length+2≤100000:=by rw[List.length_append,hTy];omega
   generalize l++Aah (ts.take k)=L at *;have hW1:=hWr.alloc (O7 t1 t2);have hG1:=hG.alloc (by omega) (O7 t1 t2);clear hcell e1 e2 e3 hd hbg hTL hTy;subst hg;go_wp2_with fail
   refine(Lt n B L t1 t2 _ hLL hW1).mono ?_;rintro e w2 ⟨rfl,hW2,hg2⟩;have hG2:=hG1.trans hg2;rw[← Aa HD]at hW2;clear x0 x1 hg2 hG1 hG hW1 hWr;go_wp2
   go_roundw
   case rel=>exact⟨k+1,by omega,by go_num,hW2,hG2⟩
   case measure=>simp[intOf];omega
  ·have e:ts.take k=ts:=List.take_of_length_le (by omega);rw[e]at hWr;go_wp2
   go_end0
   exact⟨rfl,hWr,hG⟩
theorem Ed (l:List Rd.Hnd) (k:Nat) (hk:k<l.length) (j:Nat) (hj:j<4):(Bb l)[k*4+j]?=[Value.int .i64 l[k].frm,.int .i64 l[k].til,.int .i64 l[k].target,.int .i64 l[k].cl][j]?∧k*4+j<(Bb l).length:=by
 refine⟨Dq (fun x:Rd.Hnd=>[Value.int .i64 x.frm,.int .i64 x.til,.int .i64 x.target,.int .i64 x.cl]) 4 (fun _=>rfl) l k hk j hj,?_⟩;unfold Bb;rw[Cx (fun x:Rd.Hnd=>[Value.int .i64 x.frm,.int .i64 x.til,.int .i64 x.target,.int .i64 x.cl]) 4 (fun _=>rfl) l];omega
theorem Aew (l:List Rd.Hnd):(l.flatMap Adk).length=4*l.length:=by
 induction l with
 | nil=>rfl
 | cons x r ih=>simp[Adk]at ih ⊢;omega
theorem M8 (n B b:Nat) (l:List UInt8) (hs:List Rd.Hnd) (a:Option Addr) (m c:Nat) (w:World) (hl:l.length+(Adb hs).length≤100000) (hW:WrAt w n B l) (hT:HndsAt w b (.slice a m c) hs) :
  Calls Tryz.prog 83 #[.pointer (some ⟨B,0,none⟩),.slice a m c] w fun e w'=>e=.returned (.tuple #[])∧WrAt w' n B (l++Adb hs)∧WG n w w':=by
 obtain⟨xa,xc,hsh⟩:=Af hT;simp only[Value.slice.injEq]at hsh;obtain⟨rfl,hn1,rfl⟩:=hsh;subst hn1;unfold Adb at hl ⊢;rw[List.length_cons,Aew]at hl;generalize hB0:Zw (hs.length:Int)=b0;have HB0:=Ac hB0;clear hB0;go_enter Tryz.func83,Tryz.ntmps83
 (go_wp2_with fail);refine(Bj n B l (hs.length:Int) _ (by omega) hW).mono ?_;rintro e w1 ⟨rfl,hW1,hg1⟩
 rw[Aa HB0]at hW1;go_wp2
 go_loopw [12] (fun v wr=>∃ k:Nat,k≤hs.length∧v=.int .i64 (k:Int)∧WrAt wr n B (l++[b0]++(hs.take k).flatMap Adk)∧WG n w wr)
  (fun v _=>hs.length-(intOf v).toNat)
 case atStart=>exact⟨0,by omega,rfl,by simpa using hW1,hg1⟩
 case round =>
  clear hW1 hg1;obtain⟨k,hk,rfl,hWr,hG⟩:=hrel;have hlt:=hWr.lt;by_cases hkn:k<hs.length
  ·obtain⟨g,hg,hglt,hbg,hcell⟩:=Ao (Ch hT hG (by decide) (by decide)) (by omega);have x0:=(hcell _ (Ed hs k hkn 0 (by omega)).2).trans (Ed hs k hkn 0 (by omega)).1;have x1:=(hcell _ (Ed hs k hkn 1 (by omega)).2).trans (Ed hs k hkn 1 (by omega)).1;have x2:=(hcell _ (Ed hs k hkn 2 (by omega)).2).trans (Ed hs k hkn 2 (by omega)).1;have x3:=(hcell _ (Ed hs k hkn 3 (by omega)).2).trans (Ed hs k hkn 3 (by omega)).1;have hd:hs.take (k+1)=hs.take k++[hs[k]]:=by rw[List.take_succ_eq_append_getElem hkn]
   have hTy:=Aew (hs.take k);have hTL:(hs.take k).length=k:=by simp;omega
   generalize hs[k]=t at *;obtain⟨t1,t2,t3,t4⟩:=t;simp at x0 x1 x2 x3;rw[hTL]at hTy;have HD:Hid (l++[b0]++(hs.take (k+1)).flatMap Adk=l++[b0]++(hs.take k).flatMap Adk++[Zw t1]++[Zw t2]++[Zw t3]++[Zw t4]):=by unfold Hid;rw[hd];simp[Adk]
   have hLL:(l++[b0]++(hs.take k).flatMap Adk).length+4≤100000:=by rw[List.length_append,List.length_append,hTy];simp;omega
   generalize l++[b0]++(hs.take k).flatMap Adk=L at *;have hW1:=hWr.alloc (O21 t1 t2 t3 t4);have C1:=Ad wr (O21 t1 t2 t3 t4);have hG1:=hG.alloc (by omega) (O21 t1 t2 t3 t4);clear hcell hd hbg hTL hTy;subst hg
   (go_wp2_with fail);refine(Bj n B L t1 _ (by omega) hW1).mono ?_;rintro e w2 ⟨rfl,hW2,hg2⟩
   have C2:=hg2.kp _ _ _ C1 (by decide) (by decide);have y1:=Ab C2 1;have l2:=lt_of_block C2;simp at y1
   (go_wp2_with fail);refine(Bj n B (L++[Zw t1]) t2 _ (by simp;omega) hW2).mono ?_;rintro e w3 ⟨rfl,hW3,hg3⟩
   have C3:=hg3.kp _ _ _ C2 (by decide) (by decide);have y2:=Ab C3 2;have l3:=lt_of_block C3;simp at y2
   (go_wp2_with fail);refine(Bj n B (L++[Zw t1]++[Zw t2]) t3 _ (by simp;omega) hW3).mono ?_;rintro e w4 ⟨rfl,hW4,hg4⟩
   have C4:=hg4.kp _ _ _ C3 (by decide) (by decide);have y3:=Ab C4 3;have l4:=lt_of_block C4;simp at y3
   (go_wp2_with fail);refine(Bj n B (L++[Zw t1]++[Zw t2]++[Zw t3]) t4 _ (by simp;omega) hW4).mono ?_;rintro e w5 ⟨rfl,hW5,hg5⟩
   have hG2:=(((hG1.trans hg2).trans hg3).trans hg4).trans hg5;rw[← Aa HD]at hW5;clear x0 x1 x2 x3 y1 y2 y3 l2 l3 l4 C1 C2 C3 C4 hg2 hg3 hg4 hg5 hG1 hG hW1 hW2 hW3 hW4 hWr;go_wp2
   go_roundw
   case rel=>exact⟨k+1,by omega,by go_num,hW5,hG2⟩
   case measure=>simp[intOf];omega
  ·have e:hs.take k=hs:=List.take_of_length_le (by omega);rw[e]at hWr;go_wp2
   go_end0
   exact⟨rfl,by simpa using hWr,hG⟩
theorem Fw (l:List (Rd.Mp × Value × Value)) (k:Nat) (hk:k<l.length) (j:Nat) (hj:j<3):(Co l)[k*3+j]?=[Value.int .i64 l[k].1.place,l[k].2.1,l[k].2.2][j]?∧k*3+j<(Co l).length:=by
 refine⟨Dq (fun x:Rd.Mp × Value × Value=>[Value.int .i64 x.1.place,x.2.1,x.2.2]) 3 (fun _=>rfl) l k hk j hj,?_⟩;unfold Co;rw[Cx (fun x:Rd.Mp × Value × Value=>[Value.int .i64 x.1.place,x.2.1,x.2.2]) 3 (fun _=>rfl) l];omega
theorem Afa (l:List (Rd.Mp × Value × Value)) (k:Nat) (hk:k<l.length) :
  (((l.take k).map Prod.fst).flatMap Abr).length+(Abr l[k].1).length≤((l.map Prod.fst).flatMap Abr).length:=by
 have h:(l.map Prod.fst).flatMap Abr=((l.take k).map Prod.fst).flatMap Abr++(Abr l[k].1++((l.drop (k+1)).map Prod.fst).flatMap Abr):=by
  rw[← List.flatMap_cons,← List.map_cons,← List.drop_eq_getElem_cons hk,← List.flatMap_append,← List.map_append,List.take_append_drop]
 rw[h,List.length_append,List.length_append];omega
theorem Ae4 (x:Rd.Mth):(Aby x).length=8+2*x.params.length+x.code.length+(Adb x.handlers).length+(Ab7 x.maps).length:=by
 simp[Aby,Adr,Acu,Abi];omega
theorem Aev {α:Type} (f:α→List UInt8) (l:List α) (k:Nat) (hk:k<l.length):((l.take k).flatMap f).length+(f l[k]).length≤(l.flatMap f).length:=by
 have h:l.flatMap f=(l.take k).flatMap f++(f l[k]++(l.drop (k+1)).flatMap f):=by
  rw[← List.flatMap_cons,← List.drop_eq_getElem_cons hk,← List.flatMap_append,List.take_append_drop]
 rw[h,List.length_append,List.length_append];omega
theorem ClssIn.wg {n b:Nat}{v:Value}{l:List (Rd.Cls × Value)}{w w':World} (h:ClssIn w b v l) (hg:WG n w w'):ClssIn w' b v l :=
 ⟨Ch h.1 hg (by decide) (by decide),fun p hp=>Ch (h.2 p hp) hg (by decide) (by decide)⟩
end Go.Proofs.YtcefiamkoincoaaGreat
