/- a part of the proof in YtcefiamkoincoaaGreatFoundProof -/
import Derived.Test.YtcefiamkoincoaaGreatPk15
set_option maxRecDepth 100000
set_option maxHeartbeats 40000000
set_option linter.unusedVariables false
set_option linter.unusedSimpArgs false
namespace Go.Proofs.YtcefiamkoincoaaGreat
open Go.RowKit
def Pk.takes (fs:List (List (Int × Int))) (ms:List Rd.Mth) (res:Int × Int) (op n:Int):List (Int × Int) :=
 if op=7∨op=8∨op=9∨op=10∨op=13 then [(1,0),(1,0)] else if op=12∨op=25 then [(1,0)] else if op=14∨op=19 then [(3,0)]
 else if op=17 then [(3,(Pk.field fs n).1)] else if op=18 then [(3,(Pk.field fs n).1),(Pk.field fs n).2]
 else if op=20 then (ms.getD n.toNat ⟨0,0,[],(0,0),0,0,[],[],[]⟩).params else if op=21 then (3,(ms.getD n.toNat ⟨0,0,[],(0,0),0,0,[],[],[]⟩).cl) :: (ms.getD n.toNat ⟨0,0,[],(0,0),0,0,[],[],[]⟩).params
 else if op=22 then Ck.gives res else if op=23 then [(3,1)] else []
def Pk.leaves (fs:List (List (Int × Int))) (ms:List Rd.Mth) (op n:Int):List (Int × Int) :=
 if op=0∨op=24∨op=7∨op=8∨op=9∨op=10 then [(1,0)] else if op=1 then [(2,0)] else if op=17 then [(Pk.field fs n).2]
 else if op=19 then [(3,n)] else if op=20∨op=21 then Ck.gives (ms.getD n.toNat ⟨0,0,[],(0,0),0,0,[],[],[]⟩).result else []
theorem Sj (b:PBd) (bb B:Nat) (lm:List (Rd.Mth × MthV)) (fl:List (Value × List (Int × Int))) (pp op:Int) (n:Nat) (w:World) (h:Ru b w bb lm fl) (hn:n≤100000) (hB:∀ p∈lm,∀ g,p.2.params.ownBlock=some g→g < B) (hps:∀ p∈lm,p.1.params.length≤1000)
  (hN2:op=20∨op=21→n < lm.length) :
  Calls Tryz.prog 205 #[b.val,.agg #[.int .i64 pp,.int .i64 op,.int .i64 (n:Int)]] w fun e w'=>∃ a c,e=.returned (.slice a (Pk.takes (fl.map Prod.snd) (lm.map Prod.fst) (b.r1,b.r2) op (n:Int)).length c)∧TyR w' (.slice a (Pk.takes (fl.map Prod.snd) (lm.map Prod.fst) (b.r1,b.r2) op (n:Int)).length c) (Pk.takes (fl.map Prod.snd) (lm.map Prod.fst) (b.r1,b.r2) op (n:Int))∧Ss a w.heap.size B∧Below w.heap.size w w':=by
 have hFi:=fun w' (hb:Below w.heap.size w w')=>Nj (aa:=some ⟨b.tg,0,none⟩) (an:=b.T.length) (ac:=b.tc) fl bb b.ya b.yc (n:Int) w' (by have:=h.y14;omega) ⟨by omega,by omega⟩ h.yf (by have:=(h.below hb).fs;rw [h.yl] at this;exact this);have hNm:=fun (hl:n < lm.length) w' (hb:Below w.heap.size w w')=>Lg b bb lm fl n w' (h.below hb) hl;have hGv:=fun (m:PM) w'=>L9 m w';have hml:=h.ml;have hyl:=h.yl;have hmth:=h.ms;obtain ⟨fa1,fl1,fc1,fa2,fl2,fc2,tg,tc,ya,yn,yc,cl,nm,pa,pl,pc,r1,r2,lo,st,ca,cn,cc,ha,hl,hc,ma,ml,mc,la,lc,T,L⟩:=b;simp only at hml hyl hmth;subst hml hyl;simp only [PBd.val,PM.val] at hFi hNm hGv ⊢;generalize hres:Pk.takes (fl.map Prod.snd) (lm.map Prod.fst) (r1,r2) op (n:Int)=R;unfold Pk.takes at hres;have hgd:∀ hl:n < lm.length,(lm.map Prod.fst).getD ((n:Nat):Int).toNat ⟨0,0,[],(0,0),0,0,[],[],[]⟩=lm[n].1:=fun hl=>by simp [List.getD_eq_getElem?_getD,hl]
 generalize Pk.field (fl.map Prod.snd) (n:Int)=FD at *;obtain ⟨fo,ft1,ft2⟩:=FD;simp only at hFi hres;have HRES:=Ac hres;have HFI:=Ac hFi;have HNM:=Ac hNm;have HGV:=Ac hGv;have HGD:=Ac hgd;have HBB:=Ac hB;have HPS:=Ac hps;have hN2':=Ac hN2;clear hFi hNm hGv hres h hgd hB hps hN2;have hB0:=Aj w (.cells #[.slice fa1 fl1 fc1,.slice fa2 lm.length fc2,.slice (some ⟨tg,0,none⟩) T.length tc,.slice ya fl.length yc,.int .i64 cl,.int .i64 nm,.slice pa pl pc,.int .i64 r1,.int .i64 r2,.int .i64 lo,.int .i64 st,.slice ca cn cc,.slice ha hl hc,.slice ma ml mc,.slice la L.length lc] 145) (.cells #[.int .i64 pp,.int .i64 op,.int .i64 (n:Int)] 204);have U0:=Ak w (.cells #[.slice fa1 fl1 fc1,.slice fa2 lm.length fc2,.slice (some ⟨tg,0,none⟩) T.length tc,.slice ya fl.length yc,.int .i64 cl,.int .i64 nm,.slice pa pl pc,.int .i64 r1,.int .i64 r2,.int .i64 lo,.int .i64 st,.slice ca cn cc,.slice ha hl hc,.slice ma ml mc,.slice la L.length lc] 145) (.cells #[.int .i64 pp,.int .i64 op,.int .i64 (n:Int)] 204);have I0:=Ah w (.cells #[.slice fa1 fl1 fc1,.slice fa2 lm.length fc2,.slice (some ⟨tg,0,none⟩) T.length tc,.slice ya fl.length yc,.int .i64 cl,.int .i64 nm,.slice pa pl pc,.int .i64 r1,.int .i64 r2,.int .i64 lo,.int .i64 st,.slice ca cn cc,.slice ha hl hc,.slice ma ml mc,.slice la L.length lc] 145) (.cells #[.int .i64 pp,.int .i64 op,.int .i64 (n:Int)] 204);by_cases hop:op=7∨op=8∨op=9∨op=10∨op=13
 ·rcases hop with rfl | rfl | rfl | rfl | rfl
  all_goals
   have HE:Hid (R=[(1,0),(1,0)]):=by unfold Hid;rw [← Aa HRES];simp
   go_enter Tryz.func205,Tryz.ntmps205;go_wp2_with fail
   refine (Fw _).mono ?_;rintro e w1 ⟨rfl,hb1⟩;have hB1:=QB hB0 hb1;have hs1:=hB1.size;go_wp2_with fail
   refine (Fw _).mono ?_;rintro e w2 ⟨rfl,hb2⟩;have hB2:=hB1.trans (hb2.mono hs1);have hs2:=hB2.size;have hBf:=hB2.alloc hs2 (.cells #[.int .i64 1,.int .i64 0,.int .i64 1,.int .i64 0] 39);go_wp2;go_ret;rw [Aa HE];exact ⟨some ⟨w2.heap.size,0,none⟩,2,rfl,TyR.new2 w2 _ _ _ _,fun g o e=>(by simp at e;omega),hBf⟩
 have n7:(op == 7)=false:=by simp;omega
 have n8:(op == 8)=false:=by simp;omega
 have n9:(op == 9)=false:=by simp;omega
 have n10:(op == 10)=false:=by simp;omega
 have n13:(op == 13)=false:=by simp;omega
 have i7:¬ (op=7∨op=8∨op=9∨op=10∨op=13):=hop;clear hop;by_cases hop:op=12∨op=25
 ·rcases hop with rfl | rfl
  all_goals
   have HE:Hid (R=[(1,0)]):=by unfold Hid;rw [← Aa HRES];simp
   go_enter Tryz.func205,Tryz.ntmps205;go_wp2_with fail
   refine (Fw _).mono ?_;rintro e w1 ⟨rfl,hb1⟩;have hB1:=QB hB0 hb1;have hs1:=hB1.size;have hBf:=hB1.alloc hs1 (.cells #[.int .i64 1,.int .i64 0] 39);go_wp2;go_ret;rw [Aa HE];exact ⟨some ⟨w1.heap.size,0,none⟩,1,rfl,TyR.new1 w1 _ _,fun g o e=>(by simp at e;omega),hBf⟩
 have n12:(op == 12)=false:=by simp;omega
 have n25:(op == 25)=false:=by simp;omega
 have i12:¬ (op=12∨op=25):=hop;clear hop;by_cases hop:op=14∨op=19
 ·rcases hop with rfl | rfl
  all_goals
   have HE:Hid (R=[(3,0)]):=by unfold Hid;rw [← Aa HRES];simp
   go_enter Tryz.func205,Tryz.ntmps205;go_wp2_with fail
   refine (Cw 0 _).mono ?_;rintro e w1 ⟨rfl,hb1⟩;have hB1:=QB hB0 hb1;have hs1:=hB1.size;have hBf:=hB1.alloc hs1 (.cells #[.int .i64 3,.int .i64 0] 39);go_wp2;go_ret;rw [Aa HE];exact ⟨some ⟨w1.heap.size,0,none⟩,1,rfl,TyR.new1 w1 _ _,fun g o e=>(by simp at e;omega),hBf⟩
 have n14:(op == 14)=false:=by simp;omega
 have n19:(op == 19)=false:=by simp;omega
 have i14:¬ (op=14∨op=19):=hop;clear hop;by_cases hop:op=17
 ·subst hop;have HE:Hid (R=[(3,fo)]):=by unfold Hid;rw [← Aa HRES];simp
  go_enter Tryz.func205,Tryz.ntmps205;go_wp2_with fail
  refine (Aa HFI _ hB0).mono ?_;rintro e w1 ⟨rfl,hb1⟩;have hB1:=QB hB0 hb1;have hs1:=hB1.size;go_wp2_with fail
  refine (Cw fo _).mono ?_;rintro e w2 ⟨rfl,hb2⟩;have hB2:=(hB1.alloc hs1 (.cells #[.int .i64 ft1,.int .i64 ft2] 39)).trans (hb2.mono (by simp;omega));have hs2:=hB2.size;have hBf:=hB2.alloc hs2 (.cells #[.int .i64 3,.int .i64 fo] 39);go_wp2;go_ret;rw [Aa HE];exact ⟨some ⟨w2.heap.size,0,none⟩,1,rfl,TyR.new1 w2 _ _,fun g o e=>(by simp at e;omega),hBf⟩
 have n17:(op == 17)=false:=by simp;omega
 have i17:¬ (op=17):=hop;clear hop;by_cases hop:op=18
 ·subst hop;have HE:Hid (R=[(3,fo),(ft1,ft2)]):=by unfold Hid;rw [← Aa HRES];simp
  go_enter Tryz.func205,Tryz.ntmps205;go_wp2_with fail
  refine (Aa HFI _ hB0).mono ?_;rintro e w1 ⟨rfl,hb1⟩;have hB1:=QB hB0 hb1;have hs1:=hB1.size;have TA:=Ad w1 (.cells #[.int .i64 ft1,.int .i64 ft2] 39);have p0:(w1.alloc (.cells #[.int .i64 ft1,.int .i64 ft2] 39)).cell? ⟨w1.heap.size,0,none⟩=some (.int .i64 ft1):=(Ab TA 0).trans rfl;have p1:(w1.alloc (.cells #[.int .i64 ft1,.int .i64 ft2] 39)).cell? ⟨w1.heap.size,1,none⟩=some (.int .i64 ft2):=(Ab TA 1).trans rfl;have lT:=lt_of_block TA;go_wp2
  go_region_held3 (fun w'=>w'.cell? ⟨w1.heap.size,0,none⟩=some (.int .i64 ft1)∧w'.cell? ⟨w1.heap.size,1,none⟩=some (.int .i64 ft2)) (first | exact ⟨p0,p1⟩ | exact ⟨(hb2.cell lT).trans p0,(hb2.cell lT).trans p1⟩ | exact ⟨(World.cell?_alloc_lt _ _ _ (Nat.lt_of_lt_of_le lT hb2.size)).trans ((hb2.cell lT).trans p0),(World.cell?_alloc_lt _ _ _ (Nat.lt_of_lt_of_le lT hb2.size)).trans ((hb2.cell lT).trans p1)⟩) (first | (go_at_call 123;refine (Cw fo _).mono ?_;rintro e w2 ⟨rfl,hb2⟩))
  have hB2:=(hB1.alloc hs1 (.cells #[.int .i64 ft1,.int .i64 ft2] 39)).drew.trans (hb2.mono (by simp;omega));have hs2:=hB2.size;have hBf:=hB2.alloc hs2 (.cells #[.int .i64 3,.int .i64 fo,.int .i64 ft1,.int .i64 ft2] 39);go_wp2;go_ret;rw [Aa HE];exact ⟨some ⟨w2.heap.size,0,none⟩,2,rfl,TyR.new2 w2 _ _ _ _,fun g o e=>(by simp at e;omega),hBf⟩
 have n18:(op == 18)=false:=by simp;omega
 have i18:¬ (op=18):=hop;clear hop;by_cases hop:op=20
 ·subst hop;have hl:=Aa hN2' (by simp);have hgd:=Aa HGD hl;have hpl:=Aa HPS lm[n] (List.getElem_mem hl);have HE:Hid (R=lm[n].1.params):=by unfold Hid;rw [← Aa HRES];rw [hgd];simp
  go_enter Tryz.func205,Tryz.ntmps205;go_wp2_with fail
  refine (Aa HNM hl _ hB0).mono ?_;rintro e w1 ⟨q,rfl,hq,hqp,hb1⟩;have hB1:=QB hB0 hb1;have hs1:=hB1.size;have hps:=TyR.of_tys hq.ps;have hpl2:=hq.pl;have hnb:=fun g=>Aa HBB lm[n] (List.getElem_mem hl) g;rw [← hqp] at hnb;obtain ⟨q1,q2,q3,q4,q5,q6,q7,q8,q9,qa,qb,qc,qd,qe,qf,qg,qh,qi⟩:=q;simp only at hps hnb hpl2;subst hpl2;clear hq hqp;have hfd:∀ w:World,(Instr.field 94 (.agg #[.int .i64 q1,.int .i64 q2,.slice q3 lm[n].1.params.length q5,.int .i64 q6,.int .i64 q7,.int .i64 q8,.int .i64 q9,.slice qa qb qc,.slice qd qe qf,.slice qg qh qi]) 2).run Tryz.prog w=.ok (.slice q3 lm[n].1.params.length q5) w:=fun _=>by kernel_rfl
  go_wp2;go_ret;rw [Aa HE];exact ⟨q3,q5,rfl,hps,fun g o e=>(by subst e;exact Or.inr (hnb g rfl)),hB1⟩
 have n20:(op == 20)=false:=by simp;omega
 have i20:¬ (op=20):=hop;clear hop;by_cases hop:op=21
 ·subst hop;have hl:=Aa hN2' (by simp);have hgd:=Aa HGD hl;have hpl:=Aa HPS lm[n] (List.getElem_mem hl);have HE:Hid (R=(3,lm[n].1.cl) :: lm[n].1.params):=by unfold Hid;rw [← Aa HRES];rw [hgd];simp
  go_enter Tryz.func205,Tryz.ntmps205;go_wp2_with fail
  refine (Aa HNM hl _ hB0).mono ?_;rintro e w1 ⟨q,rfl,hq,hqp,hb1⟩;have hB1:=QB hB0 hb1;have hs1:=hB1.size;have hps:=TyR.of_tys hq.ps;have hpl2:=hq.pl;have hcl2:=hq.cl;obtain ⟨q1,q2,q3,q4,q5,q6,q7,q8,q9,qa,qb,qc,qd,qe,qf,qg,qh,qi⟩:=q;simp only at hps hpl2 hcl2;subst hpl2 hcl2;have MA:=Ad w1 (.cells #[.int .i64 lm[n].1.cl,.int .i64 q2,.slice q3 lm[n].1.params.length q5,.int .i64 q6,.int .i64 q7,.int .i64 q8,.int .i64 q9,.slice qa qb qc,.slice qd qe qf,.slice qg qh qi] 94);have ma:=Ab MA 0;have mb:=Ab MA 2;have lM:=lt_of_block MA;simp at ma mb;clear hq hqp;go_wp2_with fail
  refine (Cw _ _).mono ?_;rintro e w2 ⟨rfl,hb2⟩;have hB2:=(hB1.alloc hs1 (.cells #[.int .i64 lm[n].1.cl,.int .i64 q2,.slice q3 lm[n].1.params.length q5,.int .i64 q6,.int .i64 q7,.int .i64 q8,.int .i64 q9,.slice qa qb qc,.slice qd qe qf,.slice qg qh qi] 94)).trans (hb2.mono (by simp;omega));have hs2:=hB2.size;have M2:=stay hb2 MA;have mc:=Ab M2 2;have lM2:=lt_of_block M2;simp at mc;have hps2:=((hps.below ((Below.refl _ _).alloc (Nat.le_refl _) (.cells #[.int .i64 lm[n].1.cl,.int .i64 q2,.slice q3 lm[n].1.params.length q5,.int .i64 q6,.int .i64 q7,.int .i64 q8,.int .i64 q9,.slice qa qb qc,.slice qd qe qf,.slice qg qh qi] 94))).below hb2).below ((Below.refl _ _).alloc (Nat.le_refl _) (.cells #[.int .i64 3,.int .i64 lm[n].1.cl] 39));have hown0:(w2.alloc (.cells #[.int .i64 3,.int .i64 lm[n].1.cl] 39)).ownsRow w.heap.size 39 2 (.slice (some ⟨w2.heap.size,0,none⟩) 1 1) [((3:Int),lm[n].1.cl)].length (Al [((3:Int),lm[n].1.cl)]):=⟨rfl,.inr ⟨w2.heap.size,1,_,rfl,hs2,Ad w2 _,by simp,by unfold maxLen;omega,rfl,rfl⟩⟩;go_wp2_with (at_builtin;refine El rfl _ _ rfl w.heap.size _ [((3:Int),lm[n].1.cl)] lm[n].1.params q3 lm[n].1.params.length q5 rfl hown0 rfl hps2 (by simp;omega) (by simp;omega) ?_)
  intro v' w3 hown3 hgrow;obtain ⟨va,vc,rfl⟩:=Ae hown3;have hB3:=(hB2.alloc hs2 (.cells #[.int .i64 3,.int .i64 lm[n].1.cl] 39)).grown hgrow (by simp;omega) (fun j hj=>(hown0.lt j hj).1);have hlt3:=fun j hj=>(hown3.lt j hj).1;go_wp2;go_ret;rw [Aa HE];exact ⟨va,vc,by simp,by simpa using Ew hown3 (by simp),fun g o e=>(by subst e;exact Or.inl (hlt3 g rfl)),hB3⟩
 have n21:(op == 21)=false:=by simp;omega
 have i21:¬ (op=21):=hop;clear hop;by_cases hop:op=22
 ·subst hop;have HE:Hid (R=Ck.gives (r1,r2)):=by unfold Hid;rw [← Aa HRES];simp
  go_enter Tryz.func205,Tryz.ntmps205;go_wp2_with fail
  refine (Aa HGV ⟨cl,nm,pa,pl,pc,r1,r2,lo,st,ca,cn,cc,ha,hl,hc,ma,ml,mc⟩ _).mono ?_;rintro e w1 ⟨a,c,rfl,ht,hnew,hb1⟩;have hB1:=QB hB0 hb1;go_wp2;go_ret;rw [Aa HE];exact ⟨a,c,rfl,ht,fun g o e=>(by have:=hnew g o e;simp at this;omega),hB1⟩
 have n22:(op == 22)=false:=by simp;omega
 have i22:¬ (op=22):=hop;clear hop;by_cases hop:op=23
 ·subst hop;have HE:Hid (R=[(3,1)]):=by unfold Hid;rw [← Aa HRES];simp
  go_enter Tryz.func205,Tryz.ntmps205;go_wp2_with fail
  refine (Cw 1 _).mono ?_;rintro e w1 ⟨rfl,hb1⟩;have hB1:=QB hB0 hb1;have hs1:=hB1.size;have hBf:=hB1.alloc hs1 (.cells #[.int .i64 3,.int .i64 1] 39);go_wp2;go_ret;rw [Aa HE];exact ⟨some ⟨w1.heap.size,0,none⟩,1,rfl,TyR.new1 w1 _ _,fun g o e=>(by simp at e;omega),hBf⟩
 have n23:(op == 23)=false:=by simp;omega
 have i23:¬ (op=23):=hop;clear hop;have HE:Hid (R=[]):=by unfold Hid;rw [← Aa HRES];simp [i7,i12,i14,i17,i18,i20,i21,i22,i23]
 go_enter Tryz.func205,Tryz.ntmps205;go_wp2;go_ret;rw [Aa HE];exact ⟨none,0,rfl,TyR.nil _,fun g o e=>(by cases e),hB0⟩
theorem Qp (b:PBd) (bb B:Nat) (lm:List (Rd.Mth × MthV)) (fl:List (Value × List (Int × Int))) (pp op:Int) (n:Nat) (w:World) (h:Ru b w bb lm fl) (hn:n≤100000) (hB:∀ p∈lm,∀ g,p.2.params.ownBlock=some g→g < B) (hps:∀ p∈lm,p.1.params.length≤1000)
  (hN2:op=20∨op=21→n < lm.length) :
  Calls Tryz.prog 207 #[b.val,.agg #[.int .i64 pp,.int .i64 op,.int .i64 (n:Int)]] w fun e w'=>∃ a c,e=.returned (.slice a (Pk.leaves (fl.map Prod.snd) (lm.map Prod.fst) op (n:Int)).length c)∧TyR w' (.slice a (Pk.leaves (fl.map Prod.snd) (lm.map Prod.fst) op (n:Int)).length c) (Pk.leaves (fl.map Prod.snd) (lm.map Prod.fst) op (n:Int))∧Ss a w.heap.size B∧Below w.heap.size w w':=by
 have hFi:=fun w' (hb:Below w.heap.size w w')=>Nj (aa:=some ⟨b.tg,0,none⟩) (an:=b.T.length) (ac:=b.tc) fl bb b.ya b.yc (n:Int) w' (by have:=h.y14;omega) ⟨by omega,by omega⟩ h.yf (by have:=(h.below hb).fs;rw [h.yl] at this;exact this);have hNm:=fun (hl:n < lm.length) w' (hb:Below w.heap.size w w')=>Lg b bb lm fl n w' (h.below hb) hl;have hGv:=fun (m:PM) w'=>L9 m w';have hml:=h.ml;have hyl:=h.yl;have hmth:=h.ms;obtain ⟨fa1,fl1,fc1,fa2,fl2,fc2,tg,tc,ya,yn,yc,cl,nm,pa,pl,pc,r1,r2,lo,st,ca,cn,cc,ha,hl,hc,ma,ml,mc,la,lc,T,L⟩:=b;simp only at hml hyl hmth;subst hml hyl;simp only [PBd.val,PM.val] at hFi hNm hGv ⊢;generalize hres:Pk.leaves (fl.map Prod.snd) (lm.map Prod.fst) op (n:Int)=R;unfold Pk.leaves at hres;have hgd:∀ hl:n < lm.length,(lm.map Prod.fst).getD ((n:Nat):Int).toNat ⟨0,0,[],(0,0),0,0,[],[],[]⟩=lm[n].1:=fun hl=>by simp [List.getD_eq_getElem?_getD,hl]
 generalize Pk.field (fl.map Prod.snd) (n:Int)=FD at *;obtain ⟨fo,ft1,ft2⟩:=FD;simp only at hFi hres;have HRES:=Ac hres;have HFI:=Ac hFi;have HNM:=Ac hNm;have HGV:=Ac hGv;have HGD:=Ac hgd;have HBB:=Ac hB;have HPS:=Ac hps;have hN2':=Ac hN2;clear hFi hNm hGv hres h hgd hB hps hN2;have hB0:=Aj w (.cells #[.slice fa1 fl1 fc1,.slice fa2 lm.length fc2,.slice (some ⟨tg,0,none⟩) T.length tc,.slice ya fl.length yc,.int .i64 cl,.int .i64 nm,.slice pa pl pc,.int .i64 r1,.int .i64 r2,.int .i64 lo,.int .i64 st,.slice ca cn cc,.slice ha hl hc,.slice ma ml mc,.slice la L.length lc] 145) (.cells #[.int .i64 pp,.int .i64 op,.int .i64 (n:Int)] 204);have U0:=Ak w (.cells #[.slice fa1 fl1 fc1,.slice fa2 lm.length fc2,.slice (some ⟨tg,0,none⟩) T.length tc,.slice ya fl.length yc,.int .i64 cl,.int .i64 nm,.slice pa pl pc,.int .i64 r1,.int .i64 r2,.int .i64 lo,.int .i64 st,.slice ca cn cc,.slice ha hl hc,.slice ma ml mc,.slice la L.length lc] 145) (.cells #[.int .i64 pp,.int .i64 op,.int .i64 (n:Int)] 204);have I0:=Ah w (.cells #[.slice fa1 fl1 fc1,.slice fa2 lm.length fc2,.slice (some ⟨tg,0,none⟩) T.length tc,.slice ya fl.length yc,.int .i64 cl,.int .i64 nm,.slice pa pl pc,.int .i64 r1,.int .i64 r2,.int .i64 lo,.int .i64 st,.slice ca cn cc,.slice ha hl hc,.slice ma ml mc,.slice la L.length lc] 145) (.cells #[.int .i64 pp,.int .i64 op,.int .i64 (n:Int)] 204);by_cases hop:op=0∨op=24∨op=7∨op=8∨op=9∨op=10
 ·rcases hop with rfl | rfl | rfl | rfl | rfl | rfl
  all_goals
   have HE:Hid (R=[(1,0)]):=by unfold Hid;rw [← Aa HRES];simp
   go_enter Tryz.func207,Tryz.ntmps207;go_wp2_with fail
   refine (Fw _).mono ?_;rintro e w1 ⟨rfl,hb1⟩;have hB1:=QB hB0 hb1;have hs1:=hB1.size;have hBf:=hB1.alloc hs1 (.cells #[.int .i64 1,.int .i64 0] 39);go_wp2;go_ret;rw [Aa HE];exact ⟨some ⟨w1.heap.size,0,none⟩,1,rfl,TyR.new1 w1 _ _,fun g o e=>(by simp at e;omega),hBf⟩
 have n0:(op == 0)=false:=by simp;omega
 have n24:(op == 24)=false:=by simp;omega
 have n7:(op == 7)=false:=by simp;omega
 have n8:(op == 8)=false:=by simp;omega
 have n9:(op == 9)=false:=by simp;omega
 have n10:(op == 10)=false:=by simp;omega
 have i0:¬ (op=0∨op=24∨op=7∨op=8∨op=9∨op=10):=hop;clear hop;by_cases hop:op=1
 ·subst hop;have HE:Hid (R=[(2,0)]):=by unfold Hid;rw [← Aa HRES];simp
  go_enter Tryz.func207,Tryz.ntmps207;go_wp2_with fail
  refine (Uz _).mono ?_;rintro e w1 ⟨rfl,hb1⟩;have hB1:=QB hB0 hb1;have hs1:=hB1.size;have hBf:=hB1.alloc hs1 (.cells #[.int .i64 2,.int .i64 0] 39);go_wp2;go_ret;rw [Aa HE];exact ⟨some ⟨w1.heap.size,0,none⟩,1,rfl,TyR.new1 w1 _ _,fun g o e=>(by simp at e;omega),hBf⟩
 have n1:(op == 1)=false:=by simp;omega
 have i1:¬ (op=1):=hop;clear hop;by_cases hop:op=17
 ·subst hop;have HE:Hid (R=[(ft1,ft2)]):=by unfold Hid;rw [← Aa HRES];simp
  go_enter Tryz.func207,Tryz.ntmps207;go_wp2_with fail
  refine (Aa HFI _ hB0).mono ?_;rintro e w1 ⟨rfl,hb1⟩;have hB1:=QB hB0 hb1;have hs1:=hB1.size;have hBf:=(hB1.alloc hs1 (.cells #[.int .i64 ft1,.int .i64 ft2] 39)).alloc (by simp;omega) (.cells #[.int .i64 ft1,.int .i64 ft2] 39);go_wp2;go_ret;rw [Aa HE];exact ⟨some ⟨w1.heap.size+1,0,none⟩,1,rfl,by simpa using TyR.new1 (w1.alloc (.cells #[.int .i64 ft1,.int .i64 ft2] 39)) ft1 ft2,fun g o e=>(by simp at e;omega),hBf⟩
 have n17:(op == 17)=false:=by simp;omega
 have i17:¬ (op=17):=hop;clear hop;by_cases hop:op=19
 ·subst hop;have HE:Hid (R=[(3,(n:Int))]):=by unfold Hid;rw [← Aa HRES];simp
  go_enter Tryz.func207,Tryz.ntmps207;go_wp2_with fail
  refine (Cw (n:Int) _).mono ?_;rintro e w1 ⟨rfl,hb1⟩;have hB1:=QB hB0 hb1;have hs1:=hB1.size;have hBf:=hB1.alloc hs1 (.cells #[.int .i64 3,.int .i64 (n:Int)] 39);go_wp2;go_ret;rw [Aa HE];exact ⟨some ⟨w1.heap.size,0,none⟩,1,rfl,TyR.new1 w1 _ _,fun g o e=>(by simp at e;omega),hBf⟩
 have n19:(op == 19)=false:=by simp;omega
 have i19:¬ (op=19):=hop;clear hop;by_cases hop:op=20∨op=21
 ·rcases hop with rfl | rfl
  all_goals
   have hl:=Aa hN2' (by simp);have hgd:=Aa HGD hl;have hpl:=Aa HPS lm[n] (List.getElem_mem hl);have HE:Hid (R=Ck.gives lm[n].1.result):=by unfold Hid;rw [← Aa HRES];rw [hgd];simp
   go_enter Tryz.func207,Tryz.ntmps207;go_wp2_with fail
   refine (Aa HNM hl _ hB0).mono ?_;rintro e w1 ⟨q,rfl,hq,hqp,hb1⟩;have hB1:=QB hB0 hb1;have hs1:=hB1.size;have hr1:=hq.r1;have hr2:=hq.r2;obtain ⟨q1,q2,q3,q4,q5,q6,q7,q8,q9,qa,qb,qc,qd,qe,qf,qg,qh,qi⟩:=q;simp only at hr1 hr2;have hrr:Ck.gives lm[n].1.result=Ck.gives (q6,q7):=by rw [hr1,hr2]
   have HRR:=Ac hrr;clear hq hqp hr1 hr2 hrr hgd hpl;go_wp2_with fail
   refine (Aa HGV ⟨q1,q2,q3,q4,q5,q6,q7,q8,q9,qa,qb,qc,qd,qe,qf,qg,qh,qi⟩ _).mono ?_;rintro e w2 ⟨a,c,rfl,ht,hnew,hb2⟩;have hB2:=(hB1.alloc hs1 (.cells #[.int .i64 q1,.int .i64 q2,.slice q3 q4 q5,.int .i64 q6,.int .i64 q7,.int .i64 q8,.int .i64 q9,.slice qa qb qc,.slice qd qe qf,.slice qg qh qi] 94)).trans (hb2.mono (by simp;omega));go_wp2;go_ret;rw [Aa HE,Aa HRR];exact ⟨a,c,rfl,ht,fun g o e=>(by have:=hnew g o e;simp at this;omega),hB2⟩
 have n20:(op == 20)=false:=by simp;omega
 have n21:(op == 21)=false:=by simp;omega
 have i20:¬ (op=20∨op=21):=hop;clear hop;have HE:Hid (R=[]):=by unfold Hid;rw [← Aa HRES];simp [i0,i1,i17,i19,i20]
 go_enter Tryz.func207,Tryz.ntmps207;go_wp2;go_ret;rw [Aa HE];exact ⟨none,0,rfl,TyR.nil _,fun g o e=>(by cases e),hB0⟩
theorem Xo (b:PBd) (bb k:Nat) (lm:List (Rd.Mth × MthV)) (fl:List (Value × List (Int × Int))) (c:BnC) (v:FrV) (q:Pk.B) (n:Nat) (w0 w:World) (hR:Ru b w0 bb lm fl) (hw:Below w0.heap.size w0 w) (h:BnAt w w0.heap.size k c v q) :
  Calls Tryz.prog 204 #[b.val,.pointer (some ⟨k,0,none⟩),.int .i64 (n:Int)] w fun e w'=>e=.returned (.tuple #[])∧∃ v',BnAt w' w0.heap.size k c v' (Pk.set c.T (Pk.fieldsOf b.T (fl.map Prod.snd) (n:Int)) (Pk.isNew b.L (n:Int)) (n:Int) q)∧Bn k w v w' v':=by
 have hFO:=fun w' (hb:Below w0.heap.size w0 w')=>Pv b.T b.tg b.tc fl bb b.ya b.yc (n:Int) w' hR.y14 hR.tl hR.yf (hR.below hb).tr (by have:=(hR.below hb).fs;rw [hR.yl] at this;exact this);have hIN:=fun place w' (hb:Below w0.heap.size w0 w')=>Sm b bb lm fl place (n:Int) w' (hR.below hb);have hfl:(Pk.fieldsOf b.T (fl.map Prod.snd) (n:Int)).length≤14000:=by
  unfold Pk.fieldsOf;have:=Fv b.T (fl.map Prod.snd) (n:Int) (fun p hp=>by obtain ⟨x,hx,rfl⟩:=List.mem_map.1 hp;exact hR.yf x hx) (fl.map Prod.snd).length;have h14:=hR.y14;rw [List.length_map] at this ⊢;omega
 have hml:=hR.ml;have hyl:=hR.yl;obtain ⟨fa1,fl1,fc1,fa2,fl2,fc2,tg,tc,ya,yn,yc,cl,nm,pa,pl,pc,r1,r2,lo,st,ca,cn,cc,ha,hl,hc,ma,ml,mc,la,lc,T,L⟩:=b;simp only at hml hyl;subst hml hyl;simp only [PBd.val] at hFO hIN hfl ⊢;unfold Pk.set;generalize Pk.fieldsOf T (fl.map Prod.snd) (n:Int)=want at *;have hIN2:∀ place w',Below w0.heap.size w0 w'→_:=hIN;generalize hisn:Pk.isNew L (n:Int)=isN at *;have HFO:=Ac hFO;have HIN:=Ac hIN;clear hFO hIN hIN2 hR hisn;have hA:=h.alloc (.cells #[.slice fa1 fl1 fc1,.slice fa2 lm.length fc2,.slice (some ⟨tg,0,none⟩) T.length tc,.slice ya fl.length yc,.int .i64 cl,.int .i64 nm,.slice pa pl pc,.int .i64 r1,.int .i64 r2,.int .i64 lo,.int .i64 st,.slice ca cn cc,.slice ha hl hc,.slice ma ml mc,.slice la L.length lc] 145);have GA:=(Bn.refl k w v).alloc (.cells #[.slice fa1 fl1 fc1,.slice fa2 lm.length fc2,.slice (some ⟨tg,0,none⟩) T.length tc,.slice ya fl.length yc,.int .i64 cl,.int .i64 nm,.slice pa pl pc,.int .i64 r1,.int .i64 r2,.int .i64 lo,.int .i64 st,.slice ca cn cc,.slice ha hl hc,.slice ma ml mc,.slice la L.length lc] 145);have UA:=Ad w (.cells #[.slice fa1 fl1 fc1,.slice fa2 lm.length fc2,.slice (some ⟨tg,0,none⟩) T.length tc,.slice ya fl.length yc,.int .i64 cl,.int .i64 nm,.slice pa pl pc,.int .i64 r1,.int .i64 r2,.int .i64 lo,.int .i64 st,.slice ca cn cc,.slice ha hl hc,.slice ma ml mc,.slice la L.length lc] 145);have hfU:v.free k w.heap.size:=h.new (Nat.le_refl _);have hwA:=hw.alloc (by exact hw.size) (.cells #[.slice fa1 fl1 fc1,.slice fa2 lm.length fc2,.slice (some ⟨tg,0,none⟩) T.length tc,.slice ya fl.length yc,.int .i64 cl,.int .i64 nm,.slice pa pl pc,.int .i64 r1,.int .i64 r2,.int .i64 lo,.int .i64 st,.slice ca cn cc,.slice ha hl hc,.slice ma ml mc,.slice la L.length lc] 145);have hkl:=h.k_lt;generalize htb:Pk.take (Pk.takeAll c.T want q)=tb;have HTB:=Ac htb;obtain ⟨⟨t1,t2⟩,q2⟩:=tb;simp only;clear htb;unfold Pk.setAt;by_cases ht4:t1=4
 ·subst ht4;rw [if_neg (show ¬ ((4:Int),t2).1 ≠ 4 by simp)];have hIN2:=fun w' hb=>Aa HIN t2 w' hb;cases hin:isN t2 with
  | false =>
   rw [if_pos rfl];rw [hin] at hIN2;have HI:=Ac hIN2;clear hIN2 hin HIN;go_enter Tryz.func204,Tryz.ntmps204;go_wp2_with fail
   refine (Aa HFO _ hwA).mono ?_;rintro e w1 ⟨xa,xc,rfl,ht1,hb1⟩;have h1:=hA.below hb1;have G1:=GA.trans (Bn.of_below v hb1);have U1:=stay hb1 UA;have hTF:TyF w1 k v xa want.length xc want:=⟨Ew ht1 rfl,fun g o e=>(by subst e;exact hA.new (ht1.lt g rfl).1)⟩;have l1:=lt_of_block U1;clear hb1 ht1;go_wp2_with fail
   refine (Fl w1 w0.heap.size k c v q xa want.length xc want h1 hTF (by omega)).mono ?_;rintro e w2 ⟨rfl,v2,h2,G2⟩;have U2:=G2.stay hfU U1;have hfU2:=G2.free hfU l1;have l2:=lt_of_block U2;go_wp2_with fail
   refine (Cy w2 w0.heap.size k c v2 _ h2).mono ?_;rw [Aa HTB];rintro e w3 ⟨rfl,v3,h3,G3⟩;simp only at h3;have U3:=G3.stay hfU2 U2;have hfU3:=G3.free hfU2 l2;have G03:=(G1.trans G2).trans G3;have hw3:=hw.trans (G03.low h);have hs3:=hw3.size;have hX3:=h3.new (Nat.le_refl _);have c5:=Ab h3.blk 5;have f5:=Ag h3.blk 5;have lk3:=h3.k_lt;simp at c5;clear U1 U2 hfU hfU2 G1 G2 G3 h1 h2 hA GA UA hwA hTF l1 l2;obtain ⟨m0,m1,m2,m3,m4,m5,m6,m7,m8,m9,m10,m11,m12,m13,m14⟩:=Gl U3;simp at m0 m1 m2 m3 m4 m5 m6 m7 m8 m9 m10 m11 m12 m13 m14;have lU:=lt_of_block U3;have hBX:=hw3.alloc hs3 (.cells #[.int .i64 4,.int .i64 t2] 39);go_wp2_with fail
   refine (Aa HI _ hBX).mono ?_;rintro e w4 ⟨rfl,hb4⟩;have h4:=(h3.alloc (.cells #[.int .i64 4,.int .i64 t2] 39)).below hb4;have G4:=(G03.alloc (.cells #[.int .i64 4,.int .i64 t2] 39)).trans (Bn.of_below _ hb4);have d5:=Ab h4.blk 5;have e5:=Ag h4.blk 5;have lk4:=h4.k_lt;simp at d5;go_wp2;refine bodyPost_ret (v:=.tuple #[]) (by simp [results,Tryz.results204,go_sem]) rfl ?_;exact ⟨rfl,_,h4.brk,G4.brk⟩
  | true =>
   rw [if_neg (by simp)];rw [hin] at hIN2;have HI:=Ac hIN2;clear hIN2 hin HIN;go_enter Tryz.func204,Tryz.ntmps204;go_wp2_with fail
   refine (Aa HFO _ hwA).mono ?_;rintro e w1 ⟨xa,xc,rfl,ht1,hb1⟩;have h1:=hA.below hb1;have G1:=GA.trans (Bn.of_below v hb1);have U1:=stay hb1 UA;have hTF:TyF w1 k v xa want.length xc want:=⟨Ew ht1 rfl,fun g o e=>(by subst e;exact hA.new (ht1.lt g rfl).1)⟩;have l1:=lt_of_block U1;clear hb1 ht1;go_wp2_with fail
   refine (Fl w1 w0.heap.size k c v q xa want.length xc want h1 hTF (by omega)).mono ?_;rintro e w2 ⟨rfl,v2,h2,G2⟩;have U2:=G2.stay hfU U1;have hfU2:=G2.free hfU l1;have l2:=lt_of_block U2;go_wp2_with fail
   refine (Cy w2 w0.heap.size k c v2 _ h2).mono ?_;rw [Aa HTB];rintro e w3 ⟨rfl,v3,h3,G3⟩;simp only at h3;have U3:=G3.stay hfU2 U2;have hfU3:=G3.free hfU2 l2;have G03:=(G1.trans G2).trans G3;have hw3:=hw.trans (G03.low h);have hs3:=hw3.size;have hX3:=h3.new (Nat.le_refl _);have c5:=Ab h3.blk 5;have f5:=Ag h3.blk 5;have lk3:=h3.k_lt;simp at c5;clear U1 U2 hfU hfU2 G1 G2 G3 h1 h2 hA GA UA hwA hTF l1 l2;obtain ⟨m0,m1,m2,m3,m4,m5,m6,m7,m8,m9,m10,m11,m12,m13,m14⟩:=Gl U3;simp at m0 m1 m2 m3 m4 m5 m6 m7 m8 m9 m10 m11 m12 m13 m14;have lU:=lt_of_block U3;have hBX:=hw3.alloc hs3 (.cells #[.int .i64 4,.int .i64 t2] 39);have XA:=Ad w3 (.cells #[.int .i64 4,.int .i64 t2] 39);go_wp2_with fail
   refine (Aa HI _ hBX).mono ?_;rintro e w4 ⟨rfl,hb4⟩;have h4:=(h3.alloc (.cells #[.int .i64 4,.int .i64 t2] 39)).below hb4;have G4:=(G03.alloc (.cells #[.int .i64 4,.int .i64 t2] 39)).trans (Bn.of_below _ hb4);have X4:=stay hb4 XA;have p0:w4.cell? ⟨w3.heap.size,0,none⟩=some (.int .i64 4):=(Ab X4 0).trans rfl;have p1:w4.cell? ⟨w3.heap.size,1,none⟩=some (.int .i64 t2):=(Ab X4 1).trans rfl;have lX:=lt_of_block X4;clear hb4;go_wp2
   go_region_held3 (fun w'=>w'.cell? ⟨w3.heap.size,0,none⟩=some (.int .i64 4)∧w'.cell? ⟨w3.heap.size,1,none⟩=some (.int .i64 t2)) (first | exact ⟨p0,p1⟩ | exact ⟨(hb5.cell lX).trans p0,(hb5.cell lX).trans p1⟩ | exact ⟨(Ab X6 0).trans rfl,(Ab X6 1).trans rfl⟩) (first | (go_at_call 123;refine (Cw (n:Int) _).mono ?_;rintro e w5 ⟨rfl,hb5⟩) | (go_at_call 202;refine (Kz w5 w0.heap.size k c v3 q2 4 t2 3 (n:Int) (h4.drew.below hb5)).mono ?_;rintro e w6 ⟨rfl,v6,h6,G6⟩;have X6:=G6.stay hX3 (stay hb5 (show w4.drew.heap[w3.heap.size]?=_ from X4))))
   go_wp2
   go_end0
   exact ⟨rfl,v6,h6,(G4.drew.trans (Bn.of_below _ hb5)).trans G6⟩
 ·rw [if_pos (show (t1,t2).1 ≠ 4 from ht4)];have ht4':(t1 != 4)=true:=by simp [ht4]
  clear ht4 HIN;go_enter Tryz.func204,Tryz.ntmps204;go_wp2_with fail
  refine (Aa HFO _ hwA).mono ?_;rintro e w1 ⟨xa,xc,rfl,ht1,hb1⟩;have h1:=hA.below hb1;have G1:=GA.trans (Bn.of_below v hb1);have U1:=stay hb1 UA;have hTF:TyF w1 k v xa want.length xc want:=⟨Ew ht1 rfl,fun g o e=>(by subst e;exact hA.new (ht1.lt g rfl).1)⟩;have l1:=lt_of_block U1;clear hb1 ht1;go_wp2_with fail
  refine (Fl w1 w0.heap.size k c v q xa want.length xc want h1 hTF (by omega)).mono ?_;rintro e w2 ⟨rfl,v2,h2,G2⟩;have U2:=G2.stay hfU U1;have hfU2:=G2.free hfU l1;have l2:=lt_of_block U2;go_wp2_with fail
  refine (Cy w2 w0.heap.size k c v2 _ h2).mono ?_;rw [Aa HTB];rintro e w3 ⟨rfl,v3,h3,G3⟩;simp only at h3;have U3:=G3.stay hfU2 U2;have hfU3:=G3.free hfU2 l2;have G03:=(G1.trans G2).trans G3;have hw3:=hw.trans (G03.low h);have hs3:=hw3.size;have hX3:=h3.new (Nat.le_refl _);have c5:=Ab h3.blk 5;have f5:=Ag h3.blk 5;have lk3:=h3.k_lt;simp at c5;clear U1 U2 hfU hfU2 G1 G2 G3 h1 h2 hA GA UA hwA hTF l1 l2;go_wp2;refine bodyPost_ret (v:=.tuple #[]) (by simp [results,Tryz.results204,go_sem]) rfl ?_;exact ⟨rfl,_,h3.brk.alloc _,G03.brk.alloc _⟩
end Go.Proofs.YtcefiamkoincoaaGreat
