/-
  The walks over package rules: leaves.
-/
import Derived.Test.YteffpdofcgbokaaGreatPk14

namespace Go.Proofs.YteffpdofcgbokaaGreat
open Go.RowKit


set_option maxRecDepth 100000 in
set_option maxHeartbeats 40000000 in
theorem pleaves_any (b:PBd) (bb B:Nat) (lm:List (Rd.Mth × MthV)) (fl:List (Value × List (Int × Int))) (pp op:Int) (n:Nat) (w:World) (h:Ru b w bb lm fl) (hn:n≤100000) (hB:∀ p∈lm,∀ g,p.2.params.ownBlock=some g→g < B) (hps:∀ p∈lm,p.1.params.length≤1000)
  (hN2:op=20∨op=21→n < lm.length) :
  Calls Tryz.prog 175 #[b.val,.agg #[.int .i64 pp,.int .i64 op,.int .i64 (n:Int)]] w fun e w'=>∃ a c,e=.returned (.slice a (Pk.leaves (fl.map Prod.snd) (lm.map Prod.fst) op (n:Int)).length c)∧TyR w' (.slice a (Pk.leaves (fl.map Prod.snd) (lm.map Prod.fst) op (n:Int)).length c) (Pk.leaves (fl.map Prod.snd) (lm.map Prod.fst) op (n:Int))∧NewOr a w.heap.size B∧Below w.heap.size w w':=by
 have hFi:=fun w' (hb:Below w.heap.size w w')=>field_any (aa:=some ⟨b.tg,0,none⟩) (an:=b.T.length) (ac:=b.tc) fl bb b.ya b.yc (n:Int) w' (by have:=h.y14; omega) ⟨by omega,by omega⟩ h.yf (by have:=(h.below hb).fs; rw [h.yl] at this; exact this)
 have hNm:=fun (hl:n < lm.length) w' (hb:Below w.heap.size w w')=>pnamed_any b bb lm fl n w' (h.below hb) hl
 have hGv:=fun (m:PM) w'=>pgiven_any m w'
 have hml:=h.ml
 have hyl:=h.yl
 have hmth:=h.ms
 obtain ⟨fa1,fl1,fc1,fa2,fl2,fc2,tg,tc,ya,yn,yc,cl,nm,pa,pl,pc,r1,r2,lo,st,ca,cn,cc,ha,hl,hc,ma,ml,mc,la,lc,T,L⟩:=b
 simp only at hml hyl hmth
 subst hml hyl
 simp only [PBd.val,PM.val] at hFi hNm hGv ⊢
 generalize hres:Pk.leaves (fl.map Prod.snd) (lm.map Prod.fst) op (n:Int)=R
 unfold Pk.leaves at hres
 have hgd:∀ hl:n < lm.length,(lm.map Prod.fst).getD ((n:Nat):Int).toNat ⟨0,0,[],(0,0),0,0,[],[],[]⟩=lm[n].1:=fun hl=>by simp [List.getD_eq_getElem?_getD,hl]
 generalize Pk.field (fl.map Prod.snd) (n:Int)=FD at *
 obtain ⟨fo,ft1,ft2⟩:=FD
 simp only at hFi hres
 have HRES:=hide hres
 have HFI:=hide hFi
 have HNM:=hide hNm
 have HGV:=hide hGv
 have HGD:=hide hgd
 have HBB:=hide hB
 have HPS:=hide hps
 have hN2':=hide hN2
 clear hFi hNm hGv hres h hgd hB hps hN2
 have hB0:=below2 w (.cells #[.slice fa1 fl1 fc1,.slice fa2 lm.length fc2,.slice (some ⟨tg,0,none⟩) T.length tc,.slice ya fl.length yc,.int .i64 cl,.int .i64 nm,.slice pa pl pc,.int .i64 r1,.int .i64 r2,.int .i64 lo,.int .i64 st,.slice ca cn cc,.slice ha hl hc,.slice ma ml mc,.slice la L.length lc] 97) (.cells #[.int .i64 pp,.int .i64 op,.int .i64 (n:Int)] 145)
 have U0:=alloc1_blk w (.cells #[.slice fa1 fl1 fc1,.slice fa2 lm.length fc2,.slice (some ⟨tg,0,none⟩) T.length tc,.slice ya fl.length yc,.int .i64 cl,.int .i64 nm,.slice pa pl pc,.int .i64 r1,.int .i64 r2,.int .i64 lo,.int .i64 st,.slice ca cn cc,.slice ha hl hc,.slice ma ml mc,.slice la L.length lc] 97) (.cells #[.int .i64 pp,.int .i64 op,.int .i64 (n:Int)] 145)
 have I0:=alloc2_blk w (.cells #[.slice fa1 fl1 fc1,.slice fa2 lm.length fc2,.slice (some ⟨tg,0,none⟩) T.length tc,.slice ya fl.length yc,.int .i64 cl,.int .i64 nm,.slice pa pl pc,.int .i64 r1,.int .i64 r2,.int .i64 lo,.int .i64 st,.slice ca cn cc,.slice ha hl hc,.slice ma ml mc,.slice la L.length lc] 97) (.cells #[.int .i64 pp,.int .i64 op,.int .i64 (n:Int)] 145)
 by_cases hop:op=0∨op=24∨op=7∨op=8∨op=9∨op=10
 ·rcases hop with rfl | rfl | rfl | rfl | rfl | rfl
  all_goals
   have HE:Hid (R=[(1,0)]):=by unfold Hid; rw [← unhide HRES]; simp
   go_enter Tryz.func175,Tryz.ntmps175
   go_wp2_with fail
   refine (pwhole_any _).mono ?_
   rintro e w1 ⟨rfl,hb1⟩
   have hB1:=hB0.trans (hb1.mono hB0.size)
   have hs1:=hB1.size
   have hBf:=hB1.alloc hs1 (.cells #[.int .i64 1,.int .i64 0] 48)
   go_wp2
   go_ret
   rw [unhide HE]
   exact ⟨some ⟨w1.heap.size,0,none⟩,1,rfl,TyR.new1 w1 _ _,fun g o e=>(by simp at e; omega),hBf⟩
 have n0:(op == 0)=false:=by simp; omega
 have n24:(op == 24)=false:=by simp; omega
 have n7:(op == 7)=false:=by simp; omega
 have n8:(op == 8)=false:=by simp; omega
 have n9:(op == 9)=false:=by simp; omega
 have n10:(op == 10)=false:=by simp; omega
 have i0:¬ (op=0∨op=24∨op=7∨op=8∨op=9∨op=10):=hop
 clear hop
 by_cases hop:op=1
 ·subst hop
  have HE:Hid (R=[(2,0)]):=by unfold Hid; rw [← unhide HRES]; simp
  go_enter Tryz.func175,Tryz.ntmps175
  go_wp2_with fail
  refine (pnull_any _).mono ?_
  rintro e w1 ⟨rfl,hb1⟩
  have hB1:=hB0.trans (hb1.mono hB0.size)
  have hs1:=hB1.size
  have hBf:=hB1.alloc hs1 (.cells #[.int .i64 2,.int .i64 0] 48)
  go_wp2
  go_ret
  rw [unhide HE]
  exact ⟨some ⟨w1.heap.size,0,none⟩,1,rfl,TyR.new1 w1 _ _,fun g o e=>(by simp at e; omega),hBf⟩
 have n1:(op == 1)=false:=by simp; omega
 have i1:¬ (op=1):=hop
 clear hop
 by_cases hop:op=17
 ·subst hop
  have HE:Hid (R=[(ft1,ft2)]):=by unfold Hid; rw [← unhide HRES]; simp
  go_enter Tryz.func175,Tryz.ntmps175
  go_wp2_with fail
  refine (unhide HFI _ hB0).mono ?_
  rintro e w1 ⟨rfl,hb1⟩
  have hB1:=hB0.trans (hb1.mono hB0.size)
  have hs1:=hB1.size
  have hBf:=(hB1.alloc hs1 (.cells #[.int .i64 ft1,.int .i64 ft2] 48)).alloc (by simp; omega) (.cells #[.int .i64 ft1,.int .i64 ft2] 48)
  go_wp2
  go_ret
  rw [unhide HE]
  exact ⟨some ⟨w1.heap.size+1,0,none⟩,1,rfl,by simpa using TyR.new1 (w1.alloc (.cells #[.int .i64 ft1,.int .i64 ft2] 48)) ft1 ft2,fun g o e=>(by simp at e; omega),hBf⟩
 have n17:(op == 17)=false:=by simp; omega
 have i17:¬ (op=17):=hop
 clear hop
 by_cases hop:op=19
 ·subst hop
  have HE:Hid (R=[(3,(n:Int))]):=by unfold Hid; rw [← unhide HRES]; simp
  go_enter Tryz.func175,Tryz.ntmps175
  go_wp2_with fail
  refine (pref_any (n:Int) _).mono ?_
  rintro e w1 ⟨rfl,hb1⟩
  have hB1:=hB0.trans (hb1.mono hB0.size)
  have hs1:=hB1.size
  have hBf:=hB1.alloc hs1 (.cells #[.int .i64 3,.int .i64 (n:Int)] 48)
  go_wp2
  go_ret
  rw [unhide HE]
  exact ⟨some ⟨w1.heap.size,0,none⟩,1,rfl,TyR.new1 w1 _ _,fun g o e=>(by simp at e; omega),hBf⟩
 have n19:(op == 19)=false:=by simp; omega
 have i19:¬ (op=19):=hop
 clear hop
 by_cases hop:op=20∨op=21
 ·rcases hop with rfl | rfl
  all_goals
   have hl:=unhide hN2' (by simp)
   have hgd:=unhide HGD hl
   have hpl:=unhide HPS lm[n] (List.getElem_mem hl)
   have HE:Hid (R=Ck.gives lm[n].1.result):=by unfold Hid; rw [← unhide HRES]; rw [hgd]; simp
   go_enter Tryz.func175,Tryz.ntmps175
   go_wp2_with fail
   refine (unhide HNM hl _ hB0).mono ?_
   rintro e w1 ⟨q,rfl,hq,hqp,hb1⟩
   have hB1:=hB0.trans (hb1.mono hB0.size)
   have hs1:=hB1.size
   have hr1:=hq.r1
   have hr2:=hq.r2
   obtain ⟨q1,q2,q3,q4,q5,q6,q7,q8,q9,qa,qb,qc,qd,qe,qf,qg,qh,qi⟩:=q
   simp only at hr1 hr2
   have hrr:Ck.gives lm[n].1.result=Ck.gives (q6,q7):=by rw [hr1,hr2]
   have HRR:=hide hrr
   clear hq hqp hr1 hr2 hrr hgd hpl
   go_wp2_with fail
   refine (unhide HGV ⟨q1,q2,q3,q4,q5,q6,q7,q8,q9,qa,qb,qc,qd,qe,qf,qg,qh,qi⟩ _).mono ?_
   rintro e w2 ⟨a,c,rfl,ht,hnew,hb2⟩
   have hB2:=(hB1.alloc hs1 (.cells #[.int .i64 q1,.int .i64 q2,.slice q3 q4 q5,.int .i64 q6,.int .i64 q7,.int .i64 q8,.int .i64 q9,.slice qa qb qc,.slice qd qe qf,.slice qg qh qi] 92)).trans (hb2.mono (by simp; omega))
   go_wp2
   go_ret
   rw [unhide HE,unhide HRR]
   exact ⟨a,c,rfl,ht,fun g o e=>(by have:=hnew g o e; simp at this; omega),hB2⟩
 have n20:(op == 20)=false:=by simp; omega
 have n21:(op == 21)=false:=by simp; omega
 have i20:¬ (op=20∨op=21):=hop
 clear hop
 have HE:Hid (R=[]):=by unfold Hid; rw [← unhide HRES]; simp [i0,i1,i17,i19,i20]
 go_enter Tryz.func175,Tryz.ntmps175
 go_wp2
 go_ret
 rw [unhide HE]
 exact ⟨none,0,rfl,TyR.nil _,fun g o e=>(by cases e),hB0⟩
end Go.Proofs.YteffpdofcgbokaaGreat

/-
  The walk over package rules: set.
-/
namespace Go.Proofs.YteffpdofcgbokaaGreat
open Go.RowKit

set_option maxRecDepth 100000 in
set_option maxHeartbeats 16000000 in
theorem pset_any (b:PBd) (bb k:Nat) (lm:List (Rd.Mth × MthV)) (fl:List (Value × List (Int × Int))) (c:BnC) (v:FrV) (q:Pk.B) (n:Nat) (w0 w:World) (hR:Ru b w0 bb lm fl) (hw:Below w0.heap.size w0 w) (h:BnAt w w0.heap.size k c v q) :
  Calls Tryz.prog 172 #[b.val,.pointer (some ⟨k,0,none⟩),.int .i64 (n:Int)] w fun e w'=>e=.returned (.tuple #[])∧∃ v',BnAt w' w0.heap.size k c v' (Pk.set c.T (Pk.fieldsOf b.T (fl.map Prod.snd) (n:Int)) (Pk.isNew b.L (n:Int)) (n:Int) q)∧Bn k w v w' v':=by
 have hFO:=fun w' (hb:Below w0.heap.size w0 w')=>fieldsOf_any b.T b.tg b.tc fl bb b.ya b.yc (n:Int) w' hR.y14 hR.tl hR.yf (hR.below hb).tr (by have:=(hR.below hb).fs; rw [hR.yl] at this; exact this)
 have hIN:=fun place w' (hb:Below w0.heap.size w0 w')=>pisNew_any b bb lm fl place (n:Int) w' (hR.below hb)
 have hfl:(Pk.fieldsOf b.T (fl.map Prod.snd) (n:Int)).length≤14000:=by
  unfold Pk.fieldsOf
  have:=fieldsTo_len2 b.T (fl.map Prod.snd) (n:Int) (fun p hp=>by obtain ⟨x,hx,rfl⟩:=List.mem_map.1 hp; exact hR.yf x hx) (fl.map Prod.snd).length
  have h14:=hR.y14
  rw [List.length_map] at this ⊢
  omega
 have hml:=hR.ml
 have hyl:=hR.yl
 obtain ⟨fa1,fl1,fc1,fa2,fl2,fc2,tg,tc,ya,yn,yc,cl,nm,pa,pl,pc,r1,r2,lo,st,ca,cn,cc,ha,hl,hc,ma,ml,mc,la,lc,T,L⟩:=b
 simp only at hml hyl
 subst hml hyl
 simp only [PBd.val] at hFO hIN hfl ⊢
 unfold Pk.set
 generalize Pk.fieldsOf T (fl.map Prod.snd) (n:Int)=want at *
 have hIN2:∀ place w',Below w0.heap.size w0 w'→_:=hIN
 generalize hisn:Pk.isNew L (n:Int)=isN at *
 have HFO:=hide hFO
 have HIN:=hide hIN
 clear hFO hIN hIN2 hR hisn
 have hA:=h.alloc (.cells #[.slice fa1 fl1 fc1,.slice fa2 lm.length fc2,.slice (some ⟨tg,0,none⟩) T.length tc,.slice ya fl.length yc,.int .i64 cl,.int .i64 nm,.slice pa pl pc,.int .i64 r1,.int .i64 r2,.int .i64 lo,.int .i64 st,.slice ca cn cc,.slice ha hl hc,.slice ma ml mc,.slice la L.length lc] 97)
 have GA:=(Bn.refl k w v).alloc (.cells #[.slice fa1 fl1 fc1,.slice fa2 lm.length fc2,.slice (some ⟨tg,0,none⟩) T.length tc,.slice ya fl.length yc,.int .i64 cl,.int .i64 nm,.slice pa pl pc,.int .i64 r1,.int .i64 r2,.int .i64 lo,.int .i64 st,.slice ca cn cc,.slice ha hl hc,.slice ma ml mc,.slice la L.length lc] 97)
 have UA:=alloc_blk w (.cells #[.slice fa1 fl1 fc1,.slice fa2 lm.length fc2,.slice (some ⟨tg,0,none⟩) T.length tc,.slice ya fl.length yc,.int .i64 cl,.int .i64 nm,.slice pa pl pc,.int .i64 r1,.int .i64 r2,.int .i64 lo,.int .i64 st,.slice ca cn cc,.slice ha hl hc,.slice ma ml mc,.slice la L.length lc] 97)
 have hfU:v.free k w.heap.size:=h.new (Nat.le_refl _)
 have hwA:=hw.alloc (by exact hw.size) (.cells #[.slice fa1 fl1 fc1,.slice fa2 lm.length fc2,.slice (some ⟨tg,0,none⟩) T.length tc,.slice ya fl.length yc,.int .i64 cl,.int .i64 nm,.slice pa pl pc,.int .i64 r1,.int .i64 r2,.int .i64 lo,.int .i64 st,.slice ca cn cc,.slice ha hl hc,.slice ma ml mc,.slice la L.length lc] 97)
 have hkl:=h.k_lt
 generalize htb:Pk.take (Pk.takeAll c.T want q)=tb
 have HTB:=hide htb
 obtain ⟨⟨t1,t2⟩,q2⟩:=tb
 simp only
 clear htb
 unfold Pk.setAt
 by_cases ht4:t1=4
 ·subst ht4
  rw [if_neg (show ¬ ((4:Int),t2).1 ≠ 4 by simp)]
  have hIN2:=fun w' hb=>unhide HIN t2 w' hb
  cases hin:isN t2 with
  | false =>
   rw [if_pos rfl]
   rw [hin] at hIN2
   have HI:=hide hIN2
   clear hIN2 hin HIN
   go_enter Tryz.func172,Tryz.ntmps172
   go_wp2_with fail
   refine (unhide HFO _ hwA).mono ?_
   rintro e w1 ⟨xa,xc,rfl,ht1,hb1⟩
   have h1:=hA.below hb1
   have G1:=GA.trans (Bn.of_below v hb1)
   have U1:=stay hb1 UA
   have hTF:TyF w1 k v xa want.length xc want:=⟨own_tyr ht1 rfl,fun g o e=>(by subst e; exact hA.new (ht1.lt g rfl).1)⟩
   have l1:=lt_of_block U1
   clear hb1 ht1
   go_wp2_with fail
   refine (takeAll_any w1 w0.heap.size k c v q xa want.length xc want h1 hTF (by omega)).mono ?_
   rintro e w2 ⟨rfl,v2,h2,G2⟩
   have U2:=G2.stay hfU U1
   have hfU2:=G2.free hfU l1
   have l2:=lt_of_block U2
   go_wp2_with fail
   refine (take_any w2 w0.heap.size k c v2 _ h2).mono ?_
   rw [unhide HTB]
   rintro e w3 ⟨rfl,v3,h3,G3⟩
   simp only at h3
   have U3:=G3.stay hfU2 U2
   have hfU3:=G3.free hfU2 l2
   have G03:=(G1.trans G2).trans G3
   have hw3:=hw.trans (G03.low h)
   have hs3:=hw3.size
   have hX3:=h3.new (Nat.le_refl _)
   have c5:=blk_cell h3.blk 5
   have f5:=blk_free h3.blk 5
   have lk3:=h3.k_lt
   simp at c5
   clear U1 U2 hfU hfU2 G1 G2 G3 h1 h2 hA GA UA hwA hTF l1 l2
   have m0:=blk_cell U3 0
   have m1:=blk_cell U3 1
   have m2:=blk_cell U3 2
   have m3:=blk_cell U3 3
   have m4:=blk_cell U3 4
   have m5:=blk_cell U3 5
   have m6:=blk_cell U3 6
   have m7:=blk_cell U3 7
   have m8:=blk_cell U3 8
   have m9:=blk_cell U3 9
   have m10:=blk_cell U3 10
   have m11:=blk_cell U3 11
   have m12:=blk_cell U3 12
   have m13:=blk_cell U3 13
   have m14:=blk_cell U3 14
   simp at m0 m1 m2 m3 m4 m5 m6 m7 m8 m9 m10 m11 m12 m13 m14
   have lU:=lt_of_block U3
   have hBX:=hw3.alloc hs3 (.cells #[.int .i64 4,.int .i64 t2] 48)
   go_wp2_with fail
   refine (unhide HI _ hBX).mono ?_
   rintro e w4 ⟨rfl,hb4⟩
   have h4:=(h3.alloc (.cells #[.int .i64 4,.int .i64 t2] 48)).below hb4
   have G4:=(G03.alloc (.cells #[.int .i64 4,.int .i64 t2] 48)).trans (Bn.of_below _ hb4)
   have d5:=blk_cell h4.blk 5
   have e5:=blk_free h4.blk 5
   have lk4:=h4.k_lt
   simp at d5
   go_wp2
   refine bodyPost_ret (v:=.tuple #[]) (by simp [results,Tryz.results172,go_sem]) rfl ?_
   exact ⟨rfl,_,h4.brk,G4.brk⟩
  | true =>
   rw [if_neg (by simp)]
   rw [hin] at hIN2
   have HI:=hide hIN2
   clear hIN2 hin HIN
   go_enter Tryz.func172,Tryz.ntmps172
   go_wp2_with fail
   refine (unhide HFO _ hwA).mono ?_
   rintro e w1 ⟨xa,xc,rfl,ht1,hb1⟩
   have h1:=hA.below hb1
   have G1:=GA.trans (Bn.of_below v hb1)
   have U1:=stay hb1 UA
   have hTF:TyF w1 k v xa want.length xc want:=⟨own_tyr ht1 rfl,fun g o e=>(by subst e; exact hA.new (ht1.lt g rfl).1)⟩
   have l1:=lt_of_block U1
   clear hb1 ht1
   go_wp2_with fail
   refine (takeAll_any w1 w0.heap.size k c v q xa want.length xc want h1 hTF (by omega)).mono ?_
   rintro e w2 ⟨rfl,v2,h2,G2⟩
   have U2:=G2.stay hfU U1
   have hfU2:=G2.free hfU l1
   have l2:=lt_of_block U2
   go_wp2_with fail
   refine (take_any w2 w0.heap.size k c v2 _ h2).mono ?_
   rw [unhide HTB]
   rintro e w3 ⟨rfl,v3,h3,G3⟩
   simp only at h3
   have U3:=G3.stay hfU2 U2
   have hfU3:=G3.free hfU2 l2
   have G03:=(G1.trans G2).trans G3
   have hw3:=hw.trans (G03.low h)
   have hs3:=hw3.size
   have hX3:=h3.new (Nat.le_refl _)
   have c5:=blk_cell h3.blk 5
   have f5:=blk_free h3.blk 5
   have lk3:=h3.k_lt
   simp at c5
   clear U1 U2 hfU hfU2 G1 G2 G3 h1 h2 hA GA UA hwA hTF l1 l2
   have m0:=blk_cell U3 0
   have m1:=blk_cell U3 1
   have m2:=blk_cell U3 2
   have m3:=blk_cell U3 3
   have m4:=blk_cell U3 4
   have m5:=blk_cell U3 5
   have m6:=blk_cell U3 6
   have m7:=blk_cell U3 7
   have m8:=blk_cell U3 8
   have m9:=blk_cell U3 9
   have m10:=blk_cell U3 10
   have m11:=blk_cell U3 11
   have m12:=blk_cell U3 12
   have m13:=blk_cell U3 13
   have m14:=blk_cell U3 14
   simp at m0 m1 m2 m3 m4 m5 m6 m7 m8 m9 m10 m11 m12 m13 m14
   have lU:=lt_of_block U3
   have hBX:=hw3.alloc hs3 (.cells #[.int .i64 4,.int .i64 t2] 48)
   have XA:=alloc_blk w3 (.cells #[.int .i64 4,.int .i64 t2] 48)
   go_wp2_with fail
   refine (unhide HI _ hBX).mono ?_
   rintro e w4 ⟨rfl,hb4⟩
   have h4:=(h3.alloc (.cells #[.int .i64 4,.int .i64 t2] 48)).below hb4
   have G4:=(G03.alloc (.cells #[.int .i64 4,.int .i64 t2] 48)).trans (Bn.of_below _ hb4)
   have X4:=stay hb4 XA
   have p0:w4.cell? ⟨w3.heap.size,0,none⟩=some (.int .i64 4):=(blk_cell X4 0).trans rfl
   have p1:w4.cell? ⟨w3.heap.size,1,none⟩=some (.int .i64 t2):=(blk_cell X4 1).trans rfl
   have lX:=lt_of_block X4
   clear hb4
   go_wp2
   go_region_held3 (fun w'=>w'.cell? ⟨w3.heap.size,0,none⟩=some (.int .i64 4)∧w'.cell? ⟨w3.heap.size,1,none⟩=some (.int .i64 t2)) (first | exact ⟨p0,p1⟩ | exact ⟨(hb5.cell lX).trans p0,(hb5.cell lX).trans p1⟩ | exact ⟨(blk_cell X6 0).trans rfl,(blk_cell X6 1).trans rfl⟩) (first | (go_at_call 116; refine (pref_any (n:Int) _).mono ?_; rintro e w5 ⟨rfl,hb5⟩) | (go_at_call 170; refine (become_any w5 w0.heap.size k c v3 q2 4 t2 3 (n:Int) (h4.drew.below hb5)).mono ?_; rintro e w6 ⟨rfl,v6,h6,G6⟩; have X6:=G6.stay hX3 (stay hb5 (show w4.drew.heap[w3.heap.size]?=_ from X4))))
   go_wp2
   go_end0
   exact ⟨rfl,v6,h6,(G4.drew.trans (Bn.of_below _ hb5)).trans G6⟩
 ·rw [if_pos (show (t1,t2).1 ≠ 4 from ht4)]
  have ht4':(t1 != 4)=true:=by simp [ht4]
  clear ht4 HIN
  go_enter Tryz.func172,Tryz.ntmps172
  go_wp2_with fail
  refine (unhide HFO _ hwA).mono ?_
  rintro e w1 ⟨xa,xc,rfl,ht1,hb1⟩
  have h1:=hA.below hb1
  have G1:=GA.trans (Bn.of_below v hb1)
  have U1:=stay hb1 UA
  have hTF:TyF w1 k v xa want.length xc want:=⟨own_tyr ht1 rfl,fun g o e=>(by subst e; exact hA.new (ht1.lt g rfl).1)⟩
  have l1:=lt_of_block U1
  clear hb1 ht1
  go_wp2_with fail
  refine (takeAll_any w1 w0.heap.size k c v q xa want.length xc want h1 hTF (by omega)).mono ?_
  rintro e w2 ⟨rfl,v2,h2,G2⟩
  have U2:=G2.stay hfU U1
  have hfU2:=G2.free hfU l1
  have l2:=lt_of_block U2
  go_wp2_with fail
  refine (take_any w2 w0.heap.size k c v2 _ h2).mono ?_
  rw [unhide HTB]
  rintro e w3 ⟨rfl,v3,h3,G3⟩
  simp only at h3
  have U3:=G3.stay hfU2 U2
  have hfU3:=G3.free hfU2 l2
  have G03:=(G1.trans G2).trans G3
  have hw3:=hw.trans (G03.low h)
  have hs3:=hw3.size
  have hX3:=h3.new (Nat.le_refl _)
  have c5:=blk_cell h3.blk 5
  have f5:=blk_free h3.blk 5
  have lk3:=h3.k_lt
  simp at c5
  clear U1 U2 hfU hfU2 G1 G2 G3 h1 h2 hA GA UA hwA hTF l1 l2
  go_wp2
  refine bodyPost_ret (v:=.tuple #[]) (by simp [results,Tryz.results172,go_sem]) rfl ?_
  exact ⟨rfl,_,h3.brk.alloc _,G03.brk.alloc _⟩
end Go.Proofs.YteffpdofcgbokaaGreat

/-
  The walk over package rules: Behind.
-/
namespace Go.Proofs.YteffpdofcgbokaaGreat
open Go.RowKit

theorem ptakes_len (fs:List (List (Int × Int))) (ms:List Rd.Mth) (hp:∀ m∈ms,m.params.length≤1000) (res:Int × Int) (op n:Int):(Pk.takes fs ms res op n).length≤1001:=by
 have hd:(ms.getD n.toNat ⟨0,0,[],(0,0),0,0,[],[],[]⟩).params.length≤1000:=by
  rw [List.getD_eq_getElem?_getD]
  rcases h:ms[n.toNat]? with _ | x
  ·simp
  ·simp; exact hp x (List.mem_of_getElem? h)
 unfold Pk.takes Ck.gives
 repeat' split
 all_goals first | (simp; done) | (simp only [List.length_cons]; omega) | omega
theorem BnAt.frame {w:World}{B k:Nat}{c:BnC}{v:FrV}{b:Pk.B} (h:BnAt w B k c v b):v.is ⟨b.lo,b.st⟩ w:=⟨TyR.of_tys h.lo,TyR.of_tys h.st,by have:=h.ll; simp only; omega,h.sl⟩
theorem take_len (b:Pk.B):(Pk.take b).2.st.length≤b.st.length:=by unfold Pk.take; split <;> simp
theorem leave_len (hi:Int) (t:Int × Int) (b:Pk.B):(Pk.leave hi t b).st.length≤b.st.length+1:=by unfold Pk.leave; split <;> simp
theorem pleaves_len (fs:List (List (Int × Int))) (ms:List Rd.Mth) (op n:Int):(Pk.leaves fs ms op n).length≤1:=by
 unfold Pk.leaves Ck.gives
 repeat' split
 all_goals simp

set_option maxRecDepth 100000 in
set_option maxHeartbeats 40000000 in
theorem pbehind_any (b:PBd) (bb:Nat) (lm:List (Rd.Mth × MthV)) (fl:List (Value × List (Int × Int))) (pp op:Int) (n:Nat) (v:FrV) (x:Ck.Fr) (w:World) (hR:Ru b w bb lm fl) (hx:v.is x w) (hn:n≤100000) (hxl:x.locals.length≤1000) (hxs:x.stack.length≤1000)
  (hps:∀ p∈lm,p.1.params.length≤1000) (hN2:op=20∨op=21→n < lm.length) :
  Calls Tryz.prog 121 #[b.val,.agg #[.int .i64 pp,.int .i64 op,.int .i64 (n:Int)],v.val] w fun e w'=>∃ u:FrV,
   e=.returned (.tuple #[u.val,.bool (Pk.behind b.T b.st (Pk.takes (fl.map Prod.snd) (lm.map Prod.fst) (b.r1,b.r2) op (n:Int)) (Pk.leaves (fl.map Prod.snd) (lm.map Prod.fst) op (n:Int)) (Pk.fieldsOf b.T (fl.map Prod.snd) (n:Int)) (Pk.isNew b.L (n:Int)) pp op (n:Int) x).isSome]) ∧
   (∀ y,Pk.behind b.T b.st (Pk.takes (fl.map Prod.snd) (lm.map Prod.fst) (b.r1,b.r2) op (n:Int)) (Pk.leaves (fl.map Prod.snd) (lm.map Prod.fst) op (n:Int)) (Pk.fieldsOf b.T (fl.map Prod.snd) (n:Int)) (Pk.isNew b.L (n:Int)) pp op (n:Int) x=some y→u.is y w')∧Below w.heap.size w w':=by
 have hblk:∀ p∈lm,∀ g,p.2.params.ownBlock=some g→g < w.heap.size:=fun p hp g hg=>((hR.ms.2 p hp).1.lt g hg).2
 have hTk:=fun w' (hb:Below w.heap.size w w')=>ptakes_any b bb w.heap.size lm fl pp op n w' (hR.below hb) hn hblk hps hN2
 have hLv:=fun w' (hb:Below w.heap.size w w')=>pleaves_any b bb w.heap.size lm fl pp op n w' (hR.below hb) hn hblk hps hN2
 have hSt:=fun k c v q w' (hb:Below w.heap.size w w') hq=>pset_any b bb k lm fl c v q n w w' hR hb hq
 have hBF:=fun c w' (h:Below w.heap.size w w')=>benchFor_any c v x w' (hx.below h)
 have hml:=hR.ml
 have hyl:=hR.yl
 have htr:=hR.tr
 have htl:=hR.tl
 generalize hPB:Pk.behind b.T b.st (Pk.takes (fl.map Prod.snd) (lm.map Prod.fst) (b.r1,b.r2) op (n:Int)) (Pk.leaves (fl.map Prod.snd) (lm.map Prod.fst) op (n:Int)) (Pk.fieldsOf b.T (fl.map Prod.snd) (n:Int)) (Pk.isNew b.L (n:Int)) pp op (n:Int) x=PB
 unfold Pk.behind Pk.works at hPB
 have htl5:(Pk.takes (fl.map Prod.snd) (lm.map Prod.fst) (b.r1,b.r2) op (n:Int)).length≤1001:=ptakes_len _ _ (fun m hm=>by obtain ⟨p,hp,rfl⟩:=List.mem_map.1 hm; exact hps p hp) _ _ _
 have hll1:(Pk.leaves (fl.map Prod.snd) (lm.map Prod.fst) op (n:Int)).length≤1:=pleaves_len _ _ _ _
 generalize Pk.takes (fl.map Prod.snd) (lm.map Prod.fst) (b.r1,b.r2) op (n:Int)=tk at *
 generalize Pk.leaves (fl.map Prod.snd) (lm.map Prod.fst) op (n:Int)=lv at *
 generalize Pk.fieldsOf b.T (fl.map Prod.snd) (n:Int)=want at *
 generalize Pk.isNew b.L (n:Int)=isN at *
 obtain ⟨fa1,fl1,fc1,fa2,fl2,fc2,tg,tc,ya,yn,yc,cl,nm,pa,pl,pc,r1,r2,lo,st,ca,cn,cc,ha,hl,hc,ma,ml,mc,la,lc,T,L⟩:=b
 obtain ⟨xa,xn,xc,za,zn,zc⟩:=v
 simp only at hml hyl htr htl hPB
 subst hml hyl
 simp only [PBd.val,FrV.val] at hTk hLv hSt hBF ⊢
 have hBF:=fun w' h=>hBF ⟨tg,tc,ya,fl.length,yc,st,T⟩ w' h
 simp only at hBF
 have HTK:=hide hTk
 have HLV:=hide hLv
 have HST:=hide hSt
 have HBF:=hide hBF
 have HPB:=hide hPB
 clear hTk hLv hSt hBF hblk hR hx hps hN2 hPB
 have hB0:=below4 w (.cells #[.slice fa1 fl1 fc1,.slice fa2 lm.length fc2,.slice (some ⟨tg,0,none⟩) T.length tc,.slice ya fl.length yc,.int .i64 cl,.int .i64 nm,.slice pa pl pc,.int .i64 r1,.int .i64 r2,.int .i64 lo,.int .i64 st,.slice ca cn cc,.slice ha hl hc,.slice ma ml mc,.slice la L.length lc] 97) (.cells #[.int .i64 pp,.int .i64 op,.int .i64 (n:Int)] 145) (.cells #[.slice xa xn xc,.slice za zn zc] 149) (.cells #[.slice none 0 0,.slice none 0 0] 149)
 obtain ⟨U0,I0,X0,R0⟩:=blks4 w (.cells #[.slice fa1 fl1 fc1,.slice fa2 lm.length fc2,.slice (some ⟨tg,0,none⟩) T.length tc,.slice ya fl.length yc,.int .i64 cl,.int .i64 nm,.slice pa pl pc,.int .i64 r1,.int .i64 r2,.int .i64 lo,.int .i64 st,.slice ca cn cc,.slice ha hl hc,.slice ma ml mc,.slice la L.length lc] 97) (.cells #[.int .i64 pp,.int .i64 op,.int .i64 (n:Int)] 145) (.cells #[.slice xa xn xc,.slice za zn zc] 149) (.cells #[.slice none 0 0,.slice none 0 0] 149)
 have hs0:=hB0.size
 by_cases hop:op=2
 ·subst hop
  have HPB2:PB=Pk.out (Pk.load st (n:Int) ⟨x.locals,x.stack,false⟩):=by rw [← unhide HPB]; simp
  go_enter Tryz.func121,Tryz.ntmps121
  go_wp2_with fail
  refine (unhide HBF _ hB0).mono ?_
  rintro e w1 ⟨v1,rfl,hl1,hs1,hns1,hb1⟩
  obtain ⟨va,vn,vc,sa,sn,sc⟩:=v1
  have hB1:=hB0.trans (hb1.mono hs0)
  have hz1:=hB1.size
  have lR:=lt_of_block (stay hb1 R0)
  have hlo4:∀ j,(Value.slice va vn vc).ownBlock=some j→w.heap.size+4≤j∧j < w1.heap.size:=fun j hj=>by have:=hl1.lt j hj; simp at this; omega
  have hst4:∀ j,(Value.slice sa sn sc).ownBlock=some j→w.heap.size+4≤j∧j < w1.heap.size:=fun j hj=>by have:=hs1.lt j hj; simp at this; omega
  have hA:BnAt (w1.alloc (.cells #[.slice (some ⟨tg,0,none⟩) T.length tc,.slice ya fl.length yc,.slice va vn vc,.slice sa sn sc,.int .i64 st,.bool false] 261)) w.heap.size w1.heap.size ⟨tg,tc,ya,fl.length,yc,st,T⟩ ⟨va,vn,vc,sa,sn,sc⟩ ⟨x.locals,x.stack,false⟩:=⟨alloc_blk w1 _,own_base (TysAt.alloc' hl1 _) hs0,own_base (TysAt.alloc' hs1 _) hs0,⟨fun e=>by have:=(hlo4 _ e).2; omega,fun e=>by have:=(hst4 _ e).2; omega⟩,hns1,hz1,(htr.below hB1).below ((Below.refl _ _).alloc (Nat.le_refl _) _),htr.1,htl,hxl,by simp only; omega⟩
  have hBA:=hB1.alloc hz1 (.cells #[.slice (some ⟨tg,0,none⟩) T.length tc,.slice ya fl.length yc,.slice va vn vc,.slice sa sn sc,.int .i64 st,.bool false] 261)
  have fr:∀ j,j < w.heap.size+4→FrV.free ⟨va,vn,vc,sa,sn,sc⟩ w1.heap.size j:=fun j hj=>⟨by omega,fun e=>by have:=(hlo4 _ e).1; omega,fun e=>by have:=(hst4 _ e).1; omega⟩
  have hfU:=fr w.heap.size (by omega)
  have hfI:=fr (w.heap.size+1) (by omega)
  have hfR:=fr (w.heap.size+1+1+1) (by omega)
  have U1:=stay1 (stay hb1 U0) (.cells #[.slice (some ⟨tg,0,none⟩) T.length tc,.slice ya fl.length yc,.slice va vn vc,.slice sa sn sc,.int .i64 st,.bool false] 261)
  have I1:=stay1 (stay hb1 I0) (.cells #[.slice (some ⟨tg,0,none⟩) T.length tc,.slice ya fl.length yc,.slice va vn vc,.slice sa sn sc,.int .i64 st,.bool false] 261)
  have R1:=stay1 (stay hb1 R0) (.cells #[.slice (some ⟨tg,0,none⟩) T.length tc,.slice ya fl.length yc,.slice va vn vc,.slice sa sn sc,.int .i64 st,.bool false] 261)
  have G1:=Bn.refl w1.heap.size (w1.alloc (.cells #[.slice (some ⟨tg,0,none⟩) T.length tc,.slice ya fl.length yc,.slice va vn vc,.slice sa sn sc,.int .i64 st,.bool false] 261)) ⟨va,vn,vc,sa,sn,sc⟩
  have i0:=blk_cell (stay hb1 I0) 0
  have i1:=blk_cell (stay hb1 I0) 1
  have i2:=blk_cell (stay hb1 I0) 2
  have lI1:=lt_of_block (stay hb1 I0)
  simp at i0 i1 i2
  clear hlo4 hst4 fr hl1 hs1 hns1 hb1
  go_wp2_with fail
  refine (load_any (w1.alloc (.cells #[.slice (some ⟨tg,0,none⟩) T.length tc,.slice ya fl.length yc,.slice va vn vc,.slice sa sn sc,.int .i64 st,.bool false] 261)) _ _ _ _ _ n hA (by first | omega | (simp only; omega))).mono ?_
  rintro e w2 ⟨rfl,v2,h2,G2'⟩
  have G2:=G1.trans G2'
  have U2:=G2'.stay hfU U1
  have I2:=G2'.stay hfI I1
  have R2:=G2'.stay hfR R1
  replace hfU:=G2'.free hfU (lt_of_block U1)
  replace hfI:=G2'.free hfI (lt_of_block I1)
  replace hfR:=G2'.free hfR (lt_of_block R1)
  go_wp2_with fail
  refine (behind_any _ _ _ _ _ _ h2).mono ?_
  rintro e w90 ⟨u,rfl,hu,h91,G91⟩
  obtain ⟨ua,un,uc,da,dn,dc⟩:=u
  have R91:=G91.stay hfR R2
  have z0:=blk_cell R91 0
  have z1:=blk_cell R91 1
  have q0:=blk_free R91 0
  have q1:=blk_free R91 1
  have lr:=lt_of_block R91
  simp at z0 z1
  have hB91:=hBA.trans ((G2.trans G91).low hA)
  have hs91:=hB91.size
  simp only [FrV.val]
  go_wp2_with fail
  refine bodyPost_ret (v:=.tuple #[.agg #[.slice ua un uc,.slice da dn dc],.bool PB.isSome]) (by simp [results,Tryz.results121,go_sem,z0,z1,HPB2]) rfl ?_
  refine ⟨⟨ua,un,uc,da,dn,dc⟩,rfl,fun y hy=>?_,(hB91.setCell (by simp; omega) _).setCell (by simp; omega) _⟩
  rw [HPB2] at hy
  obtain ⟨e1,rfl⟩:=hu y hy
  rw [e1]
  exact h91.frame.set2 R91 _ _
 have n2:(op == 2)=false:=by simp; omega
 have o2:=hop
 clear hop
 by_cases hop:op=3
 ·subst hop
  have HPB2:PB=Pk.out (Pk.store (n:Int) ⟨x.locals,x.stack,false⟩):=by rw [← unhide HPB]; simp
  go_enter Tryz.func121,Tryz.ntmps121
  go_wp2_with fail
  refine (unhide HBF _ hB0).mono ?_
  rintro e w1 ⟨v1,rfl,hl1,hs1,hns1,hb1⟩
  obtain ⟨va,vn,vc,sa,sn,sc⟩:=v1
  have hB1:=hB0.trans (hb1.mono hs0)
  have hz1:=hB1.size
  have lR:=lt_of_block (stay hb1 R0)
  have hlo4:∀ j,(Value.slice va vn vc).ownBlock=some j→w.heap.size+4≤j∧j < w1.heap.size:=fun j hj=>by have:=hl1.lt j hj; simp at this; omega
  have hst4:∀ j,(Value.slice sa sn sc).ownBlock=some j→w.heap.size+4≤j∧j < w1.heap.size:=fun j hj=>by have:=hs1.lt j hj; simp at this; omega
  have hA:BnAt (w1.alloc (.cells #[.slice (some ⟨tg,0,none⟩) T.length tc,.slice ya fl.length yc,.slice va vn vc,.slice sa sn sc,.int .i64 st,.bool false] 261)) w.heap.size w1.heap.size ⟨tg,tc,ya,fl.length,yc,st,T⟩ ⟨va,vn,vc,sa,sn,sc⟩ ⟨x.locals,x.stack,false⟩:=⟨alloc_blk w1 _,own_base (TysAt.alloc' hl1 _) hs0,own_base (TysAt.alloc' hs1 _) hs0,⟨fun e=>by have:=(hlo4 _ e).2; omega,fun e=>by have:=(hst4 _ e).2; omega⟩,hns1,hz1,(htr.below hB1).below ((Below.refl _ _).alloc (Nat.le_refl _) _),htr.1,htl,hxl,by simp only; omega⟩
  have hBA:=hB1.alloc hz1 (.cells #[.slice (some ⟨tg,0,none⟩) T.length tc,.slice ya fl.length yc,.slice va vn vc,.slice sa sn sc,.int .i64 st,.bool false] 261)
  have fr:∀ j,j < w.heap.size+4→FrV.free ⟨va,vn,vc,sa,sn,sc⟩ w1.heap.size j:=fun j hj=>⟨by omega,fun e=>by have:=(hlo4 _ e).1; omega,fun e=>by have:=(hst4 _ e).1; omega⟩
  have hfU:=fr w.heap.size (by omega)
  have hfI:=fr (w.heap.size+1) (by omega)
  have hfR:=fr (w.heap.size+1+1+1) (by omega)
  have U1:=stay1 (stay hb1 U0) (.cells #[.slice (some ⟨tg,0,none⟩) T.length tc,.slice ya fl.length yc,.slice va vn vc,.slice sa sn sc,.int .i64 st,.bool false] 261)
  have I1:=stay1 (stay hb1 I0) (.cells #[.slice (some ⟨tg,0,none⟩) T.length tc,.slice ya fl.length yc,.slice va vn vc,.slice sa sn sc,.int .i64 st,.bool false] 261)
  have R1:=stay1 (stay hb1 R0) (.cells #[.slice (some ⟨tg,0,none⟩) T.length tc,.slice ya fl.length yc,.slice va vn vc,.slice sa sn sc,.int .i64 st,.bool false] 261)
  have G1:=Bn.refl w1.heap.size (w1.alloc (.cells #[.slice (some ⟨tg,0,none⟩) T.length tc,.slice ya fl.length yc,.slice va vn vc,.slice sa sn sc,.int .i64 st,.bool false] 261)) ⟨va,vn,vc,sa,sn,sc⟩
  have i0:=blk_cell (stay hb1 I0) 0
  have i1:=blk_cell (stay hb1 I0) 1
  have i2:=blk_cell (stay hb1 I0) 2
  have lI1:=lt_of_block (stay hb1 I0)
  simp at i0 i1 i2
  clear hlo4 hst4 fr hl1 hs1 hns1 hb1
  go_wp2_with fail
  refine (store_any (w1.alloc (.cells #[.slice (some ⟨tg,0,none⟩) T.length tc,.slice ya fl.length yc,.slice va vn vc,.slice sa sn sc,.int .i64 st,.bool false] 261)) _ _ _ _ _ n hA hn).mono ?_
  rintro e w2 ⟨rfl,v2,h2,G2'⟩
  have G2:=G1.trans G2'
  have U2:=G2'.stay hfU U1
  have I2:=G2'.stay hfI I1
  have R2:=G2'.stay hfR R1
  replace hfU:=G2'.free hfU (lt_of_block U1)
  replace hfI:=G2'.free hfI (lt_of_block I1)
  replace hfR:=G2'.free hfR (lt_of_block R1)
  go_wp2_with fail
  refine (behind_any _ _ _ _ _ _ h2).mono ?_
  rintro e w90 ⟨u,rfl,hu,h91,G91⟩
  obtain ⟨ua,un,uc,da,dn,dc⟩:=u
  have R91:=G91.stay hfR R2
  have z0:=blk_cell R91 0
  have z1:=blk_cell R91 1
  have q0:=blk_free R91 0
  have q1:=blk_free R91 1
  have lr:=lt_of_block R91
  simp at z0 z1
  have hB91:=hBA.trans ((G2.trans G91).low hA)
  have hs91:=hB91.size
  simp only [FrV.val]
  go_wp2_with fail
  refine bodyPost_ret (v:=.tuple #[.agg #[.slice ua un uc,.slice da dn dc],.bool PB.isSome]) (by simp [results,Tryz.results121,go_sem,z0,z1,HPB2]) rfl ?_
  refine ⟨⟨ua,un,uc,da,dn,dc⟩,rfl,fun y hy=>?_,(hB91.setCell (by simp; omega) _).setCell (by simp; omega) _⟩
  rw [HPB2] at hy
  obtain ⟨e1,rfl⟩:=hu y hy
  rw [e1]
  exact h91.frame.set2 R91 _ _
 have n3:(op == 3)=false:=by simp; omega
 have o3:=hop
 clear hop
 by_cases hop:op=4
 ·subst hop
  have HPB2:PB=Pk.out ((Pk.take ⟨x.locals,x.stack,false⟩).2):=by rw [← unhide HPB]; simp
  go_enter Tryz.func121,Tryz.ntmps121
  go_wp2_with fail
  refine (unhide HBF _ hB0).mono ?_
  rintro e w1 ⟨v1,rfl,hl1,hs1,hns1,hb1⟩
  obtain ⟨va,vn,vc,sa,sn,sc⟩:=v1
  have hB1:=hB0.trans (hb1.mono hs0)
  have hz1:=hB1.size
  have lR:=lt_of_block (stay hb1 R0)
  have hlo4:∀ j,(Value.slice va vn vc).ownBlock=some j→w.heap.size+4≤j∧j < w1.heap.size:=fun j hj=>by have:=hl1.lt j hj; simp at this; omega
  have hst4:∀ j,(Value.slice sa sn sc).ownBlock=some j→w.heap.size+4≤j∧j < w1.heap.size:=fun j hj=>by have:=hs1.lt j hj; simp at this; omega
  have hA:BnAt (w1.alloc (.cells #[.slice (some ⟨tg,0,none⟩) T.length tc,.slice ya fl.length yc,.slice va vn vc,.slice sa sn sc,.int .i64 st,.bool false] 261)) w.heap.size w1.heap.size ⟨tg,tc,ya,fl.length,yc,st,T⟩ ⟨va,vn,vc,sa,sn,sc⟩ ⟨x.locals,x.stack,false⟩:=⟨alloc_blk w1 _,own_base (TysAt.alloc' hl1 _) hs0,own_base (TysAt.alloc' hs1 _) hs0,⟨fun e=>by have:=(hlo4 _ e).2; omega,fun e=>by have:=(hst4 _ e).2; omega⟩,hns1,hz1,(htr.below hB1).below ((Below.refl _ _).alloc (Nat.le_refl _) _),htr.1,htl,hxl,by simp only; omega⟩
  have hBA:=hB1.alloc hz1 (.cells #[.slice (some ⟨tg,0,none⟩) T.length tc,.slice ya fl.length yc,.slice va vn vc,.slice sa sn sc,.int .i64 st,.bool false] 261)
  have fr:∀ j,j < w.heap.size+4→FrV.free ⟨va,vn,vc,sa,sn,sc⟩ w1.heap.size j:=fun j hj=>⟨by omega,fun e=>by have:=(hlo4 _ e).1; omega,fun e=>by have:=(hst4 _ e).1; omega⟩
  have hfU:=fr w.heap.size (by omega)
  have hfI:=fr (w.heap.size+1) (by omega)
  have hfR:=fr (w.heap.size+1+1+1) (by omega)
  have U1:=stay1 (stay hb1 U0) (.cells #[.slice (some ⟨tg,0,none⟩) T.length tc,.slice ya fl.length yc,.slice va vn vc,.slice sa sn sc,.int .i64 st,.bool false] 261)
  have I1:=stay1 (stay hb1 I0) (.cells #[.slice (some ⟨tg,0,none⟩) T.length tc,.slice ya fl.length yc,.slice va vn vc,.slice sa sn sc,.int .i64 st,.bool false] 261)
  have R1:=stay1 (stay hb1 R0) (.cells #[.slice (some ⟨tg,0,none⟩) T.length tc,.slice ya fl.length yc,.slice va vn vc,.slice sa sn sc,.int .i64 st,.bool false] 261)
  have G1:=Bn.refl w1.heap.size (w1.alloc (.cells #[.slice (some ⟨tg,0,none⟩) T.length tc,.slice ya fl.length yc,.slice va vn vc,.slice sa sn sc,.int .i64 st,.bool false] 261)) ⟨va,vn,vc,sa,sn,sc⟩
  have i0:=blk_cell (stay hb1 I0) 0
  have i1:=blk_cell (stay hb1 I0) 1
  have i2:=blk_cell (stay hb1 I0) 2
  have lI1:=lt_of_block (stay hb1 I0)
  simp at i0 i1 i2
  clear hlo4 hst4 fr hl1 hs1 hns1 hb1
  go_wp2_with fail
  refine (take_any (w1.alloc (.cells #[.slice (some ⟨tg,0,none⟩) T.length tc,.slice ya fl.length yc,.slice va vn vc,.slice sa sn sc,.int .i64 st,.bool false] 261)) _ _ _ _ _ hA).mono ?_
  rintro e w2 ⟨rfl,v2,h2,G2'⟩
  have G2:=G1.trans G2'
  have U2:=G2'.stay hfU U1
  have I2:=G2'.stay hfI I1
  have R2:=G2'.stay hfR R1
  replace hfU:=G2'.free hfU (lt_of_block U1)
  replace hfI:=G2'.free hfI (lt_of_block I1)
  replace hfR:=G2'.free hfR (lt_of_block R1)
  go_wp2_with fail
  refine (behind_any _ _ _ _ _ _ h2).mono ?_
  rintro e w90 ⟨u,rfl,hu,h91,G91⟩
  obtain ⟨ua,un,uc,da,dn,dc⟩:=u
  have R91:=G91.stay hfR R2
  have z0:=blk_cell R91 0
  have z1:=blk_cell R91 1
  have q0:=blk_free R91 0
  have q1:=blk_free R91 1
  have lr:=lt_of_block R91
  simp at z0 z1
  have hB91:=hBA.trans ((G2.trans G91).low hA)
  have hs91:=hB91.size
  simp only [FrV.val]
  go_wp2_with fail
  refine bodyPost_ret (v:=.tuple #[.agg #[.slice ua un uc,.slice da dn dc],.bool PB.isSome]) (by simp [results,Tryz.results121,go_sem,z0,z1,HPB2]) rfl ?_
  refine ⟨⟨ua,un,uc,da,dn,dc⟩,rfl,fun y hy=>?_,(hB91.setCell (by simp; omega) _).setCell (by simp; omega) _⟩
  rw [HPB2] at hy
  obtain ⟨e1,rfl⟩:=hu y hy
  rw [e1]
  exact h91.frame.set2 R91 _ _
 have n4:(op == 4)=false:=by simp; omega
 have o4:=hop
 clear hop
 by_cases hop:op=5
 ·subst hop
  have HPB2:PB=Pk.out (Pk.leave st (Pk.take ⟨x.locals,x.stack,false⟩).1 (Pk.leave st (Pk.take ⟨x.locals,x.stack,false⟩).1 (Pk.take ⟨x.locals,x.stack,false⟩).2)):=by rw [← unhide HPB]; simp [Pk.dup]
  go_enter Tryz.func121,Tryz.ntmps121
  go_wp2_with fail
  refine (unhide HBF _ hB0).mono ?_
  rintro e w1 ⟨v1,rfl,hl1,hs1,hns1,hb1⟩
  obtain ⟨va,vn,vc,sa,sn,sc⟩:=v1
  have hB1:=hB0.trans (hb1.mono hs0)
  have hz1:=hB1.size
  have lR:=lt_of_block (stay hb1 R0)
  have hlo4:∀ j,(Value.slice va vn vc).ownBlock=some j→w.heap.size+4≤j∧j < w1.heap.size:=fun j hj=>by have:=hl1.lt j hj; simp at this; omega
  have hst4:∀ j,(Value.slice sa sn sc).ownBlock=some j→w.heap.size+4≤j∧j < w1.heap.size:=fun j hj=>by have:=hs1.lt j hj; simp at this; omega
  have hA:BnAt (w1.alloc (.cells #[.slice (some ⟨tg,0,none⟩) T.length tc,.slice ya fl.length yc,.slice va vn vc,.slice sa sn sc,.int .i64 st,.bool false] 261)) w.heap.size w1.heap.size ⟨tg,tc,ya,fl.length,yc,st,T⟩ ⟨va,vn,vc,sa,sn,sc⟩ ⟨x.locals,x.stack,false⟩:=⟨alloc_blk w1 _,own_base (TysAt.alloc' hl1 _) hs0,own_base (TysAt.alloc' hs1 _) hs0,⟨fun e=>by have:=(hlo4 _ e).2; omega,fun e=>by have:=(hst4 _ e).2; omega⟩,hns1,hz1,(htr.below hB1).below ((Below.refl _ _).alloc (Nat.le_refl _) _),htr.1,htl,hxl,by simp only; omega⟩
  have hBA:=hB1.alloc hz1 (.cells #[.slice (some ⟨tg,0,none⟩) T.length tc,.slice ya fl.length yc,.slice va vn vc,.slice sa sn sc,.int .i64 st,.bool false] 261)
  have fr:∀ j,j < w.heap.size+4→FrV.free ⟨va,vn,vc,sa,sn,sc⟩ w1.heap.size j:=fun j hj=>⟨by omega,fun e=>by have:=(hlo4 _ e).1; omega,fun e=>by have:=(hst4 _ e).1; omega⟩
  have hfU:=fr w.heap.size (by omega)
  have hfI:=fr (w.heap.size+1) (by omega)
  have hfR:=fr (w.heap.size+1+1+1) (by omega)
  have U1:=stay1 (stay hb1 U0) (.cells #[.slice (some ⟨tg,0,none⟩) T.length tc,.slice ya fl.length yc,.slice va vn vc,.slice sa sn sc,.int .i64 st,.bool false] 261)
  have I1:=stay1 (stay hb1 I0) (.cells #[.slice (some ⟨tg,0,none⟩) T.length tc,.slice ya fl.length yc,.slice va vn vc,.slice sa sn sc,.int .i64 st,.bool false] 261)
  have R1:=stay1 (stay hb1 R0) (.cells #[.slice (some ⟨tg,0,none⟩) T.length tc,.slice ya fl.length yc,.slice va vn vc,.slice sa sn sc,.int .i64 st,.bool false] 261)
  have G1:=Bn.refl w1.heap.size (w1.alloc (.cells #[.slice (some ⟨tg,0,none⟩) T.length tc,.slice ya fl.length yc,.slice va vn vc,.slice sa sn sc,.int .i64 st,.bool false] 261)) ⟨va,vn,vc,sa,sn,sc⟩
  have i0:=blk_cell (stay hb1 I0) 0
  have i1:=blk_cell (stay hb1 I0) 1
  have i2:=blk_cell (stay hb1 I0) 2
  have lI1:=lt_of_block (stay hb1 I0)
  simp at i0 i1 i2
  clear hlo4 hst4 fr hl1 hs1 hns1 hb1
  go_wp2_with fail
  refine (take_any (w1.alloc (.cells #[.slice (some ⟨tg,0,none⟩) T.length tc,.slice ya fl.length yc,.slice va vn vc,.slice sa sn sc,.int .i64 st,.bool false] 261)) _ _ _ _ _ hA).mono ?_
  rintro e w2 ⟨rfl,v2,h2,G2'⟩
  have G2:=G1.trans G2'
  have U2:=G2'.stay hfU U1
  have I2:=G2'.stay hfI I1
  have R2:=G2'.stay hfR R1
  replace hfU:=G2'.free hfU (lt_of_block U1)
  replace hfI:=G2'.free hfI (lt_of_block I1)
  replace hfR:=G2'.free hfR (lt_of_block R1)
  have hq1:=take_len ⟨x.locals,x.stack,false⟩
  simp only at hq1
  have hfA:=h2.new (Nat.le_refl _)
  have A0:=alloc_blk w2 (.cells #[.int .i64 (Pk.take ⟨x.locals,x.stack,false⟩).1.1,.int .i64 (Pk.take ⟨x.locals,x.stack,false⟩).1.2] 48)
  have h3:=h2.alloc (.cells #[.int .i64 (Pk.take ⟨x.locals,x.stack,false⟩).1.1,.int .i64 (Pk.take ⟨x.locals,x.stack,false⟩).1.2] 48)
  have G3:=G2.alloc (.cells #[.int .i64 (Pk.take ⟨x.locals,x.stack,false⟩).1.1,.int .i64 (Pk.take ⟨x.locals,x.stack,false⟩).1.2] 48)
  have U3:=stay1 U2 (.cells #[.int .i64 (Pk.take ⟨x.locals,x.stack,false⟩).1.1,.int .i64 (Pk.take ⟨x.locals,x.stack,false⟩).1.2] 48)
  have I3:=stay1 I2 (.cells #[.int .i64 (Pk.take ⟨x.locals,x.stack,false⟩).1.1,.int .i64 (Pk.take ⟨x.locals,x.stack,false⟩).1.2] 48)
  have R3:=stay1 R2 (.cells #[.int .i64 (Pk.take ⟨x.locals,x.stack,false⟩).1.1,.int .i64 (Pk.take ⟨x.locals,x.stack,false⟩).1.2] 48)
  go_wp2_with fail
  refine (leave_any _ _ _ _ _ _ (Pk.take ⟨x.locals,x.stack,false⟩).1.1 (Pk.take ⟨x.locals,x.stack,false⟩).1.2 h3 (by omega)).mono ?_
  rintro e w4 ⟨rfl,v4,h4,G4'⟩
  have G4:=G3.trans G4'
  have U4:=G4'.stay hfU U3
  have I4:=G4'.stay hfI I3
  have R4:=G4'.stay hfR R3
  replace hfU:=G4'.free hfU (lt_of_block U3)
  replace hfI:=G4'.free hfI (lt_of_block I3)
  replace hfR:=G4'.free hfR (lt_of_block R3)
  have A4:=G4'.stay hfA A0
  replace hfA:=G4'.free hfA (lt_of_block A0)
  have y0:=blk_cell A4 0
  have y1:=blk_cell A4 1
  have ly:=lt_of_block A4
  simp at y0 y1
  have hq2:=leave_len st ((Pk.take ⟨x.locals,x.stack,false⟩).1.1,(Pk.take ⟨x.locals,x.stack,false⟩).1.2) (Pk.take ⟨x.locals,x.stack,false⟩).2
  go_wp2_with fail
  refine (leave_any _ _ _ _ _ _ (Pk.take ⟨x.locals,x.stack,false⟩).1.1 (Pk.take ⟨x.locals,x.stack,false⟩).1.2 h4 (by first | omega | (simp only; omega))).mono ?_
  rintro e w5 ⟨rfl,v5,h5,G5'⟩
  have G5:=G4.trans G5'
  have U5:=G5'.stay hfU U4
  have I5:=G5'.stay hfI I4
  have R5:=G5'.stay hfR R4
  replace hfU:=G5'.free hfU (lt_of_block U4)
  replace hfI:=G5'.free hfI (lt_of_block I4)
  replace hfR:=G5'.free hfR (lt_of_block R4)
  go_wp2_with fail
  refine (behind_any _ _ _ _ _ _ h5).mono ?_
  rintro e w90 ⟨u,rfl,hu,h91,G91⟩
  obtain ⟨ua,un,uc,da,dn,dc⟩:=u
  have R91:=G91.stay hfR R5
  have z0:=blk_cell R91 0
  have z1:=blk_cell R91 1
  have q0:=blk_free R91 0
  have q1:=blk_free R91 1
  have lr:=lt_of_block R91
  simp at z0 z1
  have hB91:=hBA.trans ((G5.trans G91).low hA)
  have hs91:=hB91.size
  simp only [FrV.val]
  go_wp2_with fail
  refine bodyPost_ret (v:=.tuple #[.agg #[.slice ua un uc,.slice da dn dc],.bool PB.isSome]) (by simp [results,Tryz.results121,go_sem,z0,z1,HPB2]) rfl ?_
  refine ⟨⟨ua,un,uc,da,dn,dc⟩,rfl,fun y hy=>?_,(hB91.setCell (by simp; omega) _).setCell (by simp; omega) _⟩
  rw [HPB2] at hy
  obtain ⟨e1,rfl⟩:=hu y hy
  rw [e1]
  exact h91.frame.set2 R91 _ _
 have n5:(op == 5)=false:=by simp; omega
 have o5:=hop
 clear hop
 by_cases hop:op=6
 ·subst hop
  have HPB2:PB=Pk.out (Pk.leave st (Pk.take (Pk.take ⟨x.locals,x.stack,false⟩).2).1 (Pk.leave st (Pk.take ⟨x.locals,x.stack,false⟩).1 (Pk.take (Pk.take ⟨x.locals,x.stack,false⟩).2).2)):=by rw [← unhide HPB]; simp [Pk.swap]
  go_enter Tryz.func121,Tryz.ntmps121
  go_wp2_with fail
  refine (unhide HBF _ hB0).mono ?_
  rintro e w1 ⟨v1,rfl,hl1,hs1,hns1,hb1⟩
  obtain ⟨va,vn,vc,sa,sn,sc⟩:=v1
  have hB1:=hB0.trans (hb1.mono hs0)
  have hz1:=hB1.size
  have lR:=lt_of_block (stay hb1 R0)
  have hlo4:∀ j,(Value.slice va vn vc).ownBlock=some j→w.heap.size+4≤j∧j < w1.heap.size:=fun j hj=>by have:=hl1.lt j hj; simp at this; omega
  have hst4:∀ j,(Value.slice sa sn sc).ownBlock=some j→w.heap.size+4≤j∧j < w1.heap.size:=fun j hj=>by have:=hs1.lt j hj; simp at this; omega
  have hA:BnAt (w1.alloc (.cells #[.slice (some ⟨tg,0,none⟩) T.length tc,.slice ya fl.length yc,.slice va vn vc,.slice sa sn sc,.int .i64 st,.bool false] 261)) w.heap.size w1.heap.size ⟨tg,tc,ya,fl.length,yc,st,T⟩ ⟨va,vn,vc,sa,sn,sc⟩ ⟨x.locals,x.stack,false⟩:=⟨alloc_blk w1 _,own_base (TysAt.alloc' hl1 _) hs0,own_base (TysAt.alloc' hs1 _) hs0,⟨fun e=>by have:=(hlo4 _ e).2; omega,fun e=>by have:=(hst4 _ e).2; omega⟩,hns1,hz1,(htr.below hB1).below ((Below.refl _ _).alloc (Nat.le_refl _) _),htr.1,htl,hxl,by simp only; omega⟩
  have hBA:=hB1.alloc hz1 (.cells #[.slice (some ⟨tg,0,none⟩) T.length tc,.slice ya fl.length yc,.slice va vn vc,.slice sa sn sc,.int .i64 st,.bool false] 261)
  have fr:∀ j,j < w.heap.size+4→FrV.free ⟨va,vn,vc,sa,sn,sc⟩ w1.heap.size j:=fun j hj=>⟨by omega,fun e=>by have:=(hlo4 _ e).1; omega,fun e=>by have:=(hst4 _ e).1; omega⟩
  have hfU:=fr w.heap.size (by omega)
  have hfI:=fr (w.heap.size+1) (by omega)
  have hfR:=fr (w.heap.size+1+1+1) (by omega)
  have U1:=stay1 (stay hb1 U0) (.cells #[.slice (some ⟨tg,0,none⟩) T.length tc,.slice ya fl.length yc,.slice va vn vc,.slice sa sn sc,.int .i64 st,.bool false] 261)
  have I1:=stay1 (stay hb1 I0) (.cells #[.slice (some ⟨tg,0,none⟩) T.length tc,.slice ya fl.length yc,.slice va vn vc,.slice sa sn sc,.int .i64 st,.bool false] 261)
  have R1:=stay1 (stay hb1 R0) (.cells #[.slice (some ⟨tg,0,none⟩) T.length tc,.slice ya fl.length yc,.slice va vn vc,.slice sa sn sc,.int .i64 st,.bool false] 261)
  have G1:=Bn.refl w1.heap.size (w1.alloc (.cells #[.slice (some ⟨tg,0,none⟩) T.length tc,.slice ya fl.length yc,.slice va vn vc,.slice sa sn sc,.int .i64 st,.bool false] 261)) ⟨va,vn,vc,sa,sn,sc⟩
  have i0:=blk_cell (stay hb1 I0) 0
  have i1:=blk_cell (stay hb1 I0) 1
  have i2:=blk_cell (stay hb1 I0) 2
  have lI1:=lt_of_block (stay hb1 I0)
  simp at i0 i1 i2
  clear hlo4 hst4 fr hl1 hs1 hns1 hb1
  go_wp2_with fail
  refine (take_any (w1.alloc (.cells #[.slice (some ⟨tg,0,none⟩) T.length tc,.slice ya fl.length yc,.slice va vn vc,.slice sa sn sc,.int .i64 st,.bool false] 261)) _ _ _ _ _ hA).mono ?_
  rintro e w2 ⟨rfl,v2,h2,G2'⟩
  have G2:=G1.trans G2'
  have U2:=G2'.stay hfU U1
  have I2:=G2'.stay hfI I1
  have R2:=G2'.stay hfR R1
  replace hfU:=G2'.free hfU (lt_of_block U1)
  replace hfI:=G2'.free hfI (lt_of_block I1)
  replace hfR:=G2'.free hfR (lt_of_block R1)
  have hq1:=take_len ⟨x.locals,x.stack,false⟩
  simp only at hq1
  have hfA:=h2.new (Nat.le_refl _)
  have A0:=alloc_blk w2 (.cells #[.int .i64 (Pk.take ⟨x.locals,x.stack,false⟩).1.1,.int .i64 (Pk.take ⟨x.locals,x.stack,false⟩).1.2] 48)
  have h3:=h2.alloc (.cells #[.int .i64 (Pk.take ⟨x.locals,x.stack,false⟩).1.1,.int .i64 (Pk.take ⟨x.locals,x.stack,false⟩).1.2] 48)
  have G3:=G2.alloc (.cells #[.int .i64 (Pk.take ⟨x.locals,x.stack,false⟩).1.1,.int .i64 (Pk.take ⟨x.locals,x.stack,false⟩).1.2] 48)
  have U3:=stay1 U2 (.cells #[.int .i64 (Pk.take ⟨x.locals,x.stack,false⟩).1.1,.int .i64 (Pk.take ⟨x.locals,x.stack,false⟩).1.2] 48)
  have I3:=stay1 I2 (.cells #[.int .i64 (Pk.take ⟨x.locals,x.stack,false⟩).1.1,.int .i64 (Pk.take ⟨x.locals,x.stack,false⟩).1.2] 48)
  have R3:=stay1 R2 (.cells #[.int .i64 (Pk.take ⟨x.locals,x.stack,false⟩).1.1,.int .i64 (Pk.take ⟨x.locals,x.stack,false⟩).1.2] 48)
  go_wp2_with fail
  refine (take_any _ _ _ _ _ _ h3).mono ?_
  rintro e w4 ⟨rfl,v4,h4,G4'⟩
  have G4:=G3.trans G4'
  have U4:=G4'.stay hfU U3
  have I4:=G4'.stay hfI I3
  have R4:=G4'.stay hfR R3
  replace hfU:=G4'.free hfU (lt_of_block U3)
  replace hfI:=G4'.free hfI (lt_of_block I3)
  replace hfR:=G4'.free hfR (lt_of_block R3)
  have A4:=G4'.stay hfA A0
  replace hfA:=G4'.free hfA (lt_of_block A0)
  have hq2:=take_len (Pk.take ⟨x.locals,x.stack,false⟩).2
  have hfC:=h4.new (Nat.le_refl _)
  have C0:=alloc_blk w4 (.cells #[.int .i64 (Pk.take (Pk.take ⟨x.locals,x.stack,false⟩).2).1.1,.int .i64 (Pk.take (Pk.take ⟨x.locals,x.stack,false⟩).2).1.2] 48)
  have h5:=h4.alloc (.cells #[.int .i64 (Pk.take (Pk.take ⟨x.locals,x.stack,false⟩).2).1.1,.int .i64 (Pk.take (Pk.take ⟨x.locals,x.stack,false⟩).2).1.2] 48)
  have G5:=G4.alloc (.cells #[.int .i64 (Pk.take (Pk.take ⟨x.locals,x.stack,false⟩).2).1.1,.int .i64 (Pk.take (Pk.take ⟨x.locals,x.stack,false⟩).2).1.2] 48)
  have U5:=stay1 U4 (.cells #[.int .i64 (Pk.take (Pk.take ⟨x.locals,x.stack,false⟩).2).1.1,.int .i64 (Pk.take (Pk.take ⟨x.locals,x.stack,false⟩).2).1.2] 48)
  have I5:=stay1 I4 (.cells #[.int .i64 (Pk.take (Pk.take ⟨x.locals,x.stack,false⟩).2).1.1,.int .i64 (Pk.take (Pk.take ⟨x.locals,x.stack,false⟩).2).1.2] 48)
  have R5:=stay1 R4 (.cells #[.int .i64 (Pk.take (Pk.take ⟨x.locals,x.stack,false⟩).2).1.1,.int .i64 (Pk.take (Pk.take ⟨x.locals,x.stack,false⟩).2).1.2] 48)
  have A9:=stay1 A4 (.cells #[.int .i64 (Pk.take (Pk.take ⟨x.locals,x.stack,false⟩).2).1.1,.int .i64 (Pk.take (Pk.take ⟨x.locals,x.stack,false⟩).2).1.2] 48)
  have y0:=blk_cell A9 0
  have y1:=blk_cell A9 1
  have ly:=lt_of_block A9
  simp at y0 y1
  go_wp2_with fail
  refine (leave_any _ _ _ _ _ _ (Pk.take ⟨x.locals,x.stack,false⟩).1.1 (Pk.take ⟨x.locals,x.stack,false⟩).1.2 h5 (by omega)).mono ?_
  rintro e w6 ⟨rfl,v6,h6,G6'⟩
  have G6:=G5.trans G6'
  have U6:=G6'.stay hfU U5
  have I6:=G6'.stay hfI I5
  have R6:=G6'.stay hfR R5
  replace hfU:=G6'.free hfU (lt_of_block U5)
  replace hfI:=G6'.free hfI (lt_of_block I5)
  replace hfR:=G6'.free hfR (lt_of_block R5)
  have A6:=G6'.stay hfA A9
  replace hfA:=G6'.free hfA (lt_of_block A9)
  have C6:=G6'.stay hfC C0
  replace hfC:=G6'.free hfC (lt_of_block C0)
  clear y0 y1 ly
  have y0:=blk_cell C6 0
  have y1:=blk_cell C6 1
  have ly:=lt_of_block C6
  simp at y0 y1
  have hq3:=leave_len st ((Pk.take ⟨x.locals,x.stack,false⟩).1.1,(Pk.take ⟨x.locals,x.stack,false⟩).1.2) (Pk.take (Pk.take ⟨x.locals,x.stack,false⟩).2).2
  go_wp2_with fail
  refine (leave_any _ _ _ _ _ _ (Pk.take (Pk.take ⟨x.locals,x.stack,false⟩).2).1.1 (Pk.take (Pk.take ⟨x.locals,x.stack,false⟩).2).1.2 h6 (by first | omega | (simp only; omega))).mono ?_
  rintro e w7 ⟨rfl,v7,h7,G7'⟩
  have G7:=G6.trans G7'
  have U7:=G7'.stay hfU U6
  have I7:=G7'.stay hfI I6
  have R7:=G7'.stay hfR R6
  replace hfU:=G7'.free hfU (lt_of_block U6)
  replace hfI:=G7'.free hfI (lt_of_block I6)
  replace hfR:=G7'.free hfR (lt_of_block R6)
  go_wp2_with fail
  refine (behind_any _ _ _ _ _ _ h7).mono ?_
  rintro e w90 ⟨u,rfl,hu,h91,G91⟩
  obtain ⟨ua,un,uc,da,dn,dc⟩:=u
  have R91:=G91.stay hfR R7
  have z0:=blk_cell R91 0
  have z1:=blk_cell R91 1
  have q0:=blk_free R91 0
  have q1:=blk_free R91 1
  have lr:=lt_of_block R91
  simp at z0 z1
  have hB91:=hBA.trans ((G7.trans G91).low hA)
  have hs91:=hB91.size
  simp only [FrV.val]
  go_wp2_with fail
  refine bodyPost_ret (v:=.tuple #[.agg #[.slice ua un uc,.slice da dn dc],.bool PB.isSome]) (by simp [results,Tryz.results121,go_sem,z0,z1,HPB2]) rfl ?_
  refine ⟨⟨ua,un,uc,da,dn,dc⟩,rfl,fun y hy=>?_,(hB91.setCell (by simp; omega) _).setCell (by simp; omega) _⟩
  rw [HPB2] at hy
  obtain ⟨e1,rfl⟩:=hu y hy
  rw [e1]
  exact h91.frame.set2 R91 _ _
 have n6:(op == 6)=false:=by simp; omega
 have o6:=hop
 clear hop
 by_cases hop:op=15
 ·subst hop
  have HPB2:PB=Pk.out (Pk.leave st (4,pp) (Pk.become (4,pp) (0,0) ⟨x.locals,x.stack,false⟩)):=by rw [← unhide HPB]; simp
  go_enter Tryz.func121,Tryz.ntmps121
  go_wp2_with fail
  refine (unhide HBF _ hB0).mono ?_
  rintro e w1 ⟨v1,rfl,hl1,hs1,hns1,hb1⟩
  obtain ⟨va,vn,vc,sa,sn,sc⟩:=v1
  have hB1:=hB0.trans (hb1.mono hs0)
  have hz1:=hB1.size
  have lR:=lt_of_block (stay hb1 R0)
  have hlo4:∀ j,(Value.slice va vn vc).ownBlock=some j→w.heap.size+4≤j∧j < w1.heap.size:=fun j hj=>by have:=hl1.lt j hj; simp at this; omega
  have hst4:∀ j,(Value.slice sa sn sc).ownBlock=some j→w.heap.size+4≤j∧j < w1.heap.size:=fun j hj=>by have:=hs1.lt j hj; simp at this; omega
  have hA:BnAt (w1.alloc (.cells #[.slice (some ⟨tg,0,none⟩) T.length tc,.slice ya fl.length yc,.slice va vn vc,.slice sa sn sc,.int .i64 st,.bool false] 261)) w.heap.size w1.heap.size ⟨tg,tc,ya,fl.length,yc,st,T⟩ ⟨va,vn,vc,sa,sn,sc⟩ ⟨x.locals,x.stack,false⟩:=⟨alloc_blk w1 _,own_base (TysAt.alloc' hl1 _) hs0,own_base (TysAt.alloc' hs1 _) hs0,⟨fun e=>by have:=(hlo4 _ e).2; omega,fun e=>by have:=(hst4 _ e).2; omega⟩,hns1,hz1,(htr.below hB1).below ((Below.refl _ _).alloc (Nat.le_refl _) _),htr.1,htl,hxl,by simp only; omega⟩
  have hBA:=hB1.alloc hz1 (.cells #[.slice (some ⟨tg,0,none⟩) T.length tc,.slice ya fl.length yc,.slice va vn vc,.slice sa sn sc,.int .i64 st,.bool false] 261)
  have fr:∀ j,j < w.heap.size+4→FrV.free ⟨va,vn,vc,sa,sn,sc⟩ w1.heap.size j:=fun j hj=>⟨by omega,fun e=>by have:=(hlo4 _ e).1; omega,fun e=>by have:=(hst4 _ e).1; omega⟩
  have hfU:=fr w.heap.size (by omega)
  have hfI:=fr (w.heap.size+1) (by omega)
  have hfR:=fr (w.heap.size+1+1+1) (by omega)
  have U1:=stay1 (stay hb1 U0) (.cells #[.slice (some ⟨tg,0,none⟩) T.length tc,.slice ya fl.length yc,.slice va vn vc,.slice sa sn sc,.int .i64 st,.bool false] 261)
  have I1:=stay1 (stay hb1 I0) (.cells #[.slice (some ⟨tg,0,none⟩) T.length tc,.slice ya fl.length yc,.slice va vn vc,.slice sa sn sc,.int .i64 st,.bool false] 261)
  have R1:=stay1 (stay hb1 R0) (.cells #[.slice (some ⟨tg,0,none⟩) T.length tc,.slice ya fl.length yc,.slice va vn vc,.slice sa sn sc,.int .i64 st,.bool false] 261)
  have G1:=Bn.refl w1.heap.size (w1.alloc (.cells #[.slice (some ⟨tg,0,none⟩) T.length tc,.slice ya fl.length yc,.slice va vn vc,.slice sa sn sc,.int .i64 st,.bool false] 261)) ⟨va,vn,vc,sa,sn,sc⟩
  have i0:=blk_cell (stay hb1 I0) 0
  have i1:=blk_cell (stay hb1 I0) 1
  have i2:=blk_cell (stay hb1 I0) 2
  have lI1:=lt_of_block (stay hb1 I0)
  simp at i0 i1 i2
  clear hlo4 hst4 fr hl1 hs1 hns1 hb1
  go_wp2_with fail
  refine (praw_any pp _).mono ?_
  rintro e w2 ⟨rfl,hbA⟩
  have h2:=hA.below hbA
  have G2:=G1.trans (Bn.of_below _ hbA)
  have U2:=stay hbA U1
  have I2:=stay hbA I1
  have R2:=stay hbA R1
  go_wp2_with fail
  refine (ptop_any _).mono ?_
  rintro e w3 ⟨rfl,hbB⟩
  have h3:=h2.below hbB
  have G3:=G2.trans (Bn.of_below _ hbB)
  have U3:=stay hbB U2
  have I3:=stay hbB I2
  have R3:=stay hbB R2
  go_wp2_with fail
  refine (become_any _ _ _ _ _ _ 4 pp 0 0 h3).mono ?_
  rintro e w4 ⟨rfl,v4,h4,G4'⟩
  have G4:=G3.trans G4'
  have U4:=G4'.stay hfU U3
  have I4:=G4'.stay hfI I3
  have R4:=G4'.stay hfR R3
  replace hfU:=G4'.free hfU (lt_of_block U3)
  replace hfI:=G4'.free hfI (lt_of_block I3)
  replace hfR:=G4'.free hfR (lt_of_block R3)
  have j0:=blk_cell I4 0
  have j1:=blk_cell I4 1
  have j2:=blk_cell I4 2
  have lj:=lt_of_block I4
  simp at j0 j1 j2
  go_wp2_with fail
  refine (praw_any pp _).mono ?_
  rintro e w5 ⟨rfl,hbC⟩
  have h5:=h4.below hbC
  have G5:=G4.trans (Bn.of_below _ hbC)
  have U5:=stay hbC U4
  have I5:=stay hbC I4
  have R5:=stay hbC R4
  go_wp2_with fail
  refine (leave_any _ _ _ _ _ _ 4 pp h5 (by simp [Pk.become,turned_len]; omega)).mono ?_
  rintro e w6 ⟨rfl,v6,h6,G6'⟩
  have G6:=G5.trans G6'
  have U6:=G6'.stay hfU U5
  have I6:=G6'.stay hfI I5
  have R6:=G6'.stay hfR R5
  replace hfU:=G6'.free hfU (lt_of_block U5)
  replace hfI:=G6'.free hfI (lt_of_block I5)
  replace hfR:=G6'.free hfR (lt_of_block R5)
  go_wp2_with fail
  refine (behind_any _ _ _ _ _ _ h6).mono ?_
  rintro e w90 ⟨u,rfl,hu,h91,G91⟩
  obtain ⟨ua,un,uc,da,dn,dc⟩:=u
  have R91:=G91.stay hfR R6
  have z0:=blk_cell R91 0
  have z1:=blk_cell R91 1
  have q0:=blk_free R91 0
  have q1:=blk_free R91 1
  have lr:=lt_of_block R91
  simp at z0 z1
  have hB91:=hBA.trans ((G6.trans G91).low hA)
  have hs91:=hB91.size
  simp only [FrV.val]
  go_wp2_with fail
  refine bodyPost_ret (v:=.tuple #[.agg #[.slice ua un uc,.slice da dn dc],.bool PB.isSome]) (by simp [results,Tryz.results121,go_sem,z0,z1,HPB2]) rfl ?_
  refine ⟨⟨ua,un,uc,da,dn,dc⟩,rfl,fun y hy=>?_,(hB91.setCell (by simp; omega) _).setCell (by simp; omega) _⟩
  rw [HPB2] at hy
  obtain ⟨e1,rfl⟩:=hu y hy
  rw [e1]
  exact h91.frame.set2 R91 _ _
 have n15:(op == 15)=false:=by simp; omega
 have o15:=hop
 clear hop
 by_cases hop:op=16
 ·subst hop
  have HPB2:PB=Pk.out (Pk.set T want isN (n:Int) ⟨x.locals,x.stack,false⟩):=by rw [← unhide HPB]; simp
  go_enter Tryz.func121,Tryz.ntmps121
  go_wp2_with fail
  refine (unhide HBF _ hB0).mono ?_
  rintro e w1 ⟨v1,rfl,hl1,hs1,hns1,hb1⟩
  obtain ⟨va,vn,vc,sa,sn,sc⟩:=v1
  have hB1:=hB0.trans (hb1.mono hs0)
  have hz1:=hB1.size
  have lR:=lt_of_block (stay hb1 R0)
  have hlo4:∀ j,(Value.slice va vn vc).ownBlock=some j→w.heap.size+4≤j∧j < w1.heap.size:=fun j hj=>by have:=hl1.lt j hj; simp at this; omega
  have hst4:∀ j,(Value.slice sa sn sc).ownBlock=some j→w.heap.size+4≤j∧j < w1.heap.size:=fun j hj=>by have:=hs1.lt j hj; simp at this; omega
  have hA:BnAt (w1.alloc (.cells #[.slice (some ⟨tg,0,none⟩) T.length tc,.slice ya fl.length yc,.slice va vn vc,.slice sa sn sc,.int .i64 st,.bool false] 261)) w.heap.size w1.heap.size ⟨tg,tc,ya,fl.length,yc,st,T⟩ ⟨va,vn,vc,sa,sn,sc⟩ ⟨x.locals,x.stack,false⟩:=⟨alloc_blk w1 _,own_base (TysAt.alloc' hl1 _) hs0,own_base (TysAt.alloc' hs1 _) hs0,⟨fun e=>by have:=(hlo4 _ e).2; omega,fun e=>by have:=(hst4 _ e).2; omega⟩,hns1,hz1,(htr.below hB1).below ((Below.refl _ _).alloc (Nat.le_refl _) _),htr.1,htl,hxl,by simp only; omega⟩
  have hBA:=hB1.alloc hz1 (.cells #[.slice (some ⟨tg,0,none⟩) T.length tc,.slice ya fl.length yc,.slice va vn vc,.slice sa sn sc,.int .i64 st,.bool false] 261)
  have fr:∀ j,j < w.heap.size+4→FrV.free ⟨va,vn,vc,sa,sn,sc⟩ w1.heap.size j:=fun j hj=>⟨by omega,fun e=>by have:=(hlo4 _ e).1; omega,fun e=>by have:=(hst4 _ e).1; omega⟩
  have hfU:=fr w.heap.size (by omega)
  have hfI:=fr (w.heap.size+1) (by omega)
  have hfR:=fr (w.heap.size+1+1+1) (by omega)
  have U1:=stay1 (stay hb1 U0) (.cells #[.slice (some ⟨tg,0,none⟩) T.length tc,.slice ya fl.length yc,.slice va vn vc,.slice sa sn sc,.int .i64 st,.bool false] 261)
  have I1:=stay1 (stay hb1 I0) (.cells #[.slice (some ⟨tg,0,none⟩) T.length tc,.slice ya fl.length yc,.slice va vn vc,.slice sa sn sc,.int .i64 st,.bool false] 261)
  have R1:=stay1 (stay hb1 R0) (.cells #[.slice (some ⟨tg,0,none⟩) T.length tc,.slice ya fl.length yc,.slice va vn vc,.slice sa sn sc,.int .i64 st,.bool false] 261)
  have G1:=Bn.refl w1.heap.size (w1.alloc (.cells #[.slice (some ⟨tg,0,none⟩) T.length tc,.slice ya fl.length yc,.slice va vn vc,.slice sa sn sc,.int .i64 st,.bool false] 261)) ⟨va,vn,vc,sa,sn,sc⟩
  have i0:=blk_cell (stay hb1 I0) 0
  have i1:=blk_cell (stay hb1 I0) 1
  have i2:=blk_cell (stay hb1 I0) 2
  have lI1:=lt_of_block (stay hb1 I0)
  simp at i0 i1 i2
  have m0:=blk_cell (stay hb1 U0) 0
  have m1:=blk_cell (stay hb1 U0) 1
  have m2:=blk_cell (stay hb1 U0) 2
  have m3:=blk_cell (stay hb1 U0) 3
  have m4:=blk_cell (stay hb1 U0) 4
  have m5:=blk_cell (stay hb1 U0) 5
  have m6:=blk_cell (stay hb1 U0) 6
  have m7:=blk_cell (stay hb1 U0) 7
  have m8:=blk_cell (stay hb1 U0) 8
  have m9:=blk_cell (stay hb1 U0) 9
  have m10:=blk_cell (stay hb1 U0) 10
  have m11:=blk_cell (stay hb1 U0) 11
  have m12:=blk_cell (stay hb1 U0) 12
  have m13:=blk_cell (stay hb1 U0) 13
  have m14:=blk_cell (stay hb1 U0) 14
  have lU1:=lt_of_block (stay hb1 U0)
  simp at m0 m1 m2 m3 m4 m5 m6 m7 m8 m9 m10 m11 m12 m13 m14
  clear hlo4 hst4 fr hl1 hs1 hns1 hb1
  go_wp2_with fail
  refine (unhide HST _ _ _ _ (w1.alloc (.cells #[.slice (some ⟨tg,0,none⟩) T.length tc,.slice ya fl.length yc,.slice va vn vc,.slice sa sn sc,.int .i64 st,.bool false] 261)) hBA hA).mono ?_
  rintro e w2 ⟨rfl,v2,h2,G2'⟩
  have G2:=G1.trans G2'
  have U2:=G2'.stay hfU U1
  have I2:=G2'.stay hfI I1
  have R2:=G2'.stay hfR R1
  replace hfU:=G2'.free hfU (lt_of_block U1)
  replace hfI:=G2'.free hfI (lt_of_block I1)
  replace hfR:=G2'.free hfR (lt_of_block R1)
  go_wp2_with fail
  refine (behind_any _ _ _ _ _ _ h2).mono ?_
  rintro e w90 ⟨u,rfl,hu,h91,G91⟩
  obtain ⟨ua,un,uc,da,dn,dc⟩:=u
  have R91:=G91.stay hfR R2
  have z0:=blk_cell R91 0
  have z1:=blk_cell R91 1
  have q0:=blk_free R91 0
  have q1:=blk_free R91 1
  have lr:=lt_of_block R91
  simp at z0 z1
  have hB91:=hBA.trans ((G2.trans G91).low hA)
  have hs91:=hB91.size
  simp only [FrV.val]
  go_wp2_with fail
  refine bodyPost_ret (v:=.tuple #[.agg #[.slice ua un uc,.slice da dn dc],.bool PB.isSome]) (by simp [results,Tryz.results121,go_sem,z0,z1,HPB2]) rfl ?_
  refine ⟨⟨ua,un,uc,da,dn,dc⟩,rfl,fun y hy=>?_,(hB91.setCell (by simp; omega) _).setCell (by simp; omega) _⟩
  rw [HPB2] at hy
  obtain ⟨e1,rfl⟩:=hu y hy
  rw [e1]
  exact h91.frame.set2 R91 _ _
 have n16:(op == 16)=false:=by simp; omega
 have o16:=hop
 clear hop
 have HPB2:PB=Pk.out (Pk.leaveAll st lv (Pk.takeAll T tk ⟨x.locals,x.stack,false⟩)):=by rw [← unhide HPB]; simp [o2,o3,o4,o5,o6,o15,o16]
 go_enter Tryz.func121,Tryz.ntmps121
 go_wp2_with fail
 refine (unhide HBF _ hB0).mono ?_
 rintro e w1 ⟨v1,rfl,hl1,hs1,hns1,hb1⟩
 obtain ⟨va,vn,vc,sa,sn,sc⟩:=v1
 have hB1:=hB0.trans (hb1.mono hs0)
 have hz1:=hB1.size
 have lR:=lt_of_block (stay hb1 R0)
 have hlo4:∀ j,(Value.slice va vn vc).ownBlock=some j→w.heap.size+4≤j∧j < w1.heap.size:=fun j hj=>by have:=hl1.lt j hj; simp at this; omega
 have hst4:∀ j,(Value.slice sa sn sc).ownBlock=some j→w.heap.size+4≤j∧j < w1.heap.size:=fun j hj=>by have:=hs1.lt j hj; simp at this; omega
 have hA:BnAt (w1.alloc (.cells #[.slice (some ⟨tg,0,none⟩) T.length tc,.slice ya fl.length yc,.slice va vn vc,.slice sa sn sc,.int .i64 st,.bool false] 261)) w.heap.size w1.heap.size ⟨tg,tc,ya,fl.length,yc,st,T⟩ ⟨va,vn,vc,sa,sn,sc⟩ ⟨x.locals,x.stack,false⟩:=⟨alloc_blk w1 _,own_base (TysAt.alloc' hl1 _) hs0,own_base (TysAt.alloc' hs1 _) hs0,⟨fun e=>by have:=(hlo4 _ e).2; omega,fun e=>by have:=(hst4 _ e).2; omega⟩,hns1,hz1,(htr.below hB1).below ((Below.refl _ _).alloc (Nat.le_refl _) _),htr.1,htl,hxl,by simp only; omega⟩
 have hBA:=hB1.alloc hz1 (.cells #[.slice (some ⟨tg,0,none⟩) T.length tc,.slice ya fl.length yc,.slice va vn vc,.slice sa sn sc,.int .i64 st,.bool false] 261)
 have fr:∀ j,j < w.heap.size+4→FrV.free ⟨va,vn,vc,sa,sn,sc⟩ w1.heap.size j:=fun j hj=>⟨by omega,fun e=>by have:=(hlo4 _ e).1; omega,fun e=>by have:=(hst4 _ e).1; omega⟩
 have hfU:=fr w.heap.size (by omega)
 have hfI:=fr (w.heap.size+1) (by omega)
 have hfR:=fr (w.heap.size+1+1+1) (by omega)
 have U1:=stay1 (stay hb1 U0) (.cells #[.slice (some ⟨tg,0,none⟩) T.length tc,.slice ya fl.length yc,.slice va vn vc,.slice sa sn sc,.int .i64 st,.bool false] 261)
 have I1:=stay1 (stay hb1 I0) (.cells #[.slice (some ⟨tg,0,none⟩) T.length tc,.slice ya fl.length yc,.slice va vn vc,.slice sa sn sc,.int .i64 st,.bool false] 261)
 have R1:=stay1 (stay hb1 R0) (.cells #[.slice (some ⟨tg,0,none⟩) T.length tc,.slice ya fl.length yc,.slice va vn vc,.slice sa sn sc,.int .i64 st,.bool false] 261)
 have G1:=Bn.refl w1.heap.size (w1.alloc (.cells #[.slice (some ⟨tg,0,none⟩) T.length tc,.slice ya fl.length yc,.slice va vn vc,.slice sa sn sc,.int .i64 st,.bool false] 261)) ⟨va,vn,vc,sa,sn,sc⟩
 have i0:=blk_cell (stay hb1 I0) 0
 have i1:=blk_cell (stay hb1 I0) 1
 have i2:=blk_cell (stay hb1 I0) 2
 have lI1:=lt_of_block (stay hb1 I0)
 simp at i0 i1 i2
 have m0:=blk_cell (stay hb1 U0) 0
 have m1:=blk_cell (stay hb1 U0) 1
 have m2:=blk_cell (stay hb1 U0) 2
 have m3:=blk_cell (stay hb1 U0) 3
 have m4:=blk_cell (stay hb1 U0) 4
 have m5:=blk_cell (stay hb1 U0) 5
 have m6:=blk_cell (stay hb1 U0) 6
 have m7:=blk_cell (stay hb1 U0) 7
 have m8:=blk_cell (stay hb1 U0) 8
 have m9:=blk_cell (stay hb1 U0) 9
 have m10:=blk_cell (stay hb1 U0) 10
 have m11:=blk_cell (stay hb1 U0) 11
 have m12:=blk_cell (stay hb1 U0) 12
 have m13:=blk_cell (stay hb1 U0) 13
 have m14:=blk_cell (stay hb1 U0) 14
 have lU1:=lt_of_block (stay hb1 U0)
 simp at m0 m1 m2 m3 m4 m5 m6 m7 m8 m9 m10 m11 m12 m13 m14
 clear hlo4 hst4 fr hl1 hs1 hns1 hb1
 go_wp2_with fail
 refine (unhide HTK _ hBA).mono ?_
 rintro e w2 ⟨a2,c2,rfl,ht2,hn2,hb2⟩
 have hTF:TyF w2 w1.heap.size ⟨va,vn,vc,sa,sn,sc⟩ a2 tk.length c2 tk:=⟨ht2,fun g o e=>(hn2 g o e).elim (fun hg=>hA.new hg) (fun hg=>hA.low hg)⟩
 have h2:=hA.below hb2
 have G2:=G1.trans (Bn.of_below _ hb2)
 have U2:=stay hb2 U1
 have I2:=stay hb2 I1
 have R2:=stay hb2 R1
 go_wp2_with fail
 refine (takeAll_any _ _ _ _ _ _ a2 tk.length c2 tk h2 hTF (by omega)).mono ?_
 rintro e w3 ⟨rfl,v3,h3,G3'⟩
 have G3:=G2.trans G3'
 have U3:=G3'.stay hfU U2
 have I3:=G3'.stay hfI I2
 have R3:=G3'.stay hfR R2
 replace hfU:=G3'.free hfU (lt_of_block U2)
 replace hfI:=G3'.free hfI (lt_of_block I2)
 replace hfR:=G3'.free hfR (lt_of_block R2)
 clear m0 m1 m2 m3 m4 m5 m6 m7 m8 m9 m10 m11 m12 m13 m14 i0 i1 i2
 have m0:=blk_cell U3 0
 have m1:=blk_cell U3 1
 have m2:=blk_cell U3 2
 have m3:=blk_cell U3 3
 have m4:=blk_cell U3 4
 have m5:=blk_cell U3 5
 have m6:=blk_cell U3 6
 have m7:=blk_cell U3 7
 have m8:=blk_cell U3 8
 have m9:=blk_cell U3 9
 have m10:=blk_cell U3 10
 have m11:=blk_cell U3 11
 have m12:=blk_cell U3 12
 have m13:=blk_cell U3 13
 have m14:=blk_cell U3 14
 have lm:=lt_of_block U3
 simp at m0 m1 m2 m3 m4 m5 m6 m7 m8 m9 m10 m11 m12 m13 m14
 have j0:=blk_cell I3 0
 have j1:=blk_cell I3 1
 have j2:=blk_cell I3 2
 have lj:=lt_of_block I3
 simp at j0 j1 j2
 have hB3:=hBA.trans (G3.low hA)
 go_wp2_with fail
 refine (unhide HLV _ hB3).mono ?_
 rintro e w4 ⟨a4,c4,rfl,ht4,hn4,hb4⟩
 have hTF4:TyF w4 w1.heap.size v3 a4 lv.length c4 lv:=⟨ht4,fun g o e=>(hn4 g o e).elim (fun hg=>h3.new hg) (fun hg=>h3.low hg)⟩
 have h4:=h3.below hb4
 have G4:=G3.trans (Bn.of_below _ hb4)
 have U4:=stay hb4 U3
 have I4:=stay hb4 I3
 have R4:=stay hb4 R3
 have htl9:(Pk.takeAll T tk ⟨x.locals,x.stack,false⟩).st.length≤1000:=Nat.le_trans (takeTo_len _ _ _ _) hxs
 go_wp2_with fail
 refine (leaveAll_any _ _ _ _ _ _ a4 lv.length c4 lv h4 hTF4 (by first | omega | (simp only; omega))).mono ?_
 rintro e w5 ⟨rfl,v5,h5,G5'⟩
 have G5:=G4.trans G5'
 have U5:=G5'.stay hfU U4
 have I5:=G5'.stay hfI I4
 have R5:=G5'.stay hfR R4
 replace hfU:=G5'.free hfU (lt_of_block U4)
 replace hfI:=G5'.free hfI (lt_of_block I4)
 replace hfR:=G5'.free hfR (lt_of_block R4)
 go_wp2_with fail
 refine (behind_any _ _ _ _ _ _ h5).mono ?_
 rintro e w90 ⟨u,rfl,hu,h91,G91⟩
 obtain ⟨ua,un,uc,da,dn,dc⟩:=u
 have R91:=G91.stay hfR R5
 have z0:=blk_cell R91 0
 have z1:=blk_cell R91 1
 have q0:=blk_free R91 0
 have q1:=blk_free R91 1
 have lr:=lt_of_block R91
 simp at z0 z1
 have hB91:=hBA.trans ((G5.trans G91).low hA)
 have hs91:=hB91.size
 simp only [FrV.val]
 go_wp2_with fail
 refine bodyPost_ret (v:=.tuple #[.agg #[.slice ua un uc,.slice da dn dc],.bool PB.isSome]) (by simp [results,Tryz.results121,go_sem,z0,z1,HPB2]) rfl ?_
 refine ⟨⟨ua,un,uc,da,dn,dc⟩,rfl,fun y hy=>?_,(hB91.setCell (by simp; omega) _).setCell (by simp; omega) _⟩
 rw [HPB2] at hy
 obtain ⟨e1,rfl⟩:=hu y hy
 rw [e1]
 exact h91.frame.set2 R91 _ _
end Go.Proofs.YteffpdofcgbokaaGreat

/-
  The walks over package rules: allFit, Fits, Mapped, Caught, Start; Covers, GoesToN, GoesOn.
-/
namespace Go.Proofs.YteffpdofcgbokaaGreat
open Go.RowKit
variable {ya:Option Addr}{yn yc:Nat}

def Pk.allFit (T:List Int) (a b:List (Int × Int)):Bool:=if a.length=b.length then Pk.fitAll T a b else false
def Pk.frameFits (T:List Int) (x y:Ck.Fr):Bool:=Pk.allFit T x.locals y.locals && Pk.allFit T x.stack y.stack

set_option maxRecDepth 100000 in
set_option maxHeartbeats 8000000 in
theorem allFit_any (T:List Int) (tg tc:Nat) (a b:List (Int × Int)) (aa ab:Option Addr) (an ac bn bc:Nat) (w:World) (hl:T.length≤1000) (hT:TreeIn w tg T) (ha:TyR w (.slice aa an ac) a) (hb:TyR w (.slice ab bn bc) b) (hal:a.length≤10000) (hbl:b.length≤10000) :
  Calls Tryz.prog 162 #[.agg #[.slice (some ⟨tg,0,none⟩) T.length tc,.slice ya yn yc],.slice aa an ac,.slice ab bn bc] w fun e w'=>e=.returned (.bool (Pk.allFit T a b))∧Below w.heap.size w w':=by
 obtain ⟨e1,-,-⟩:=ha.cap
 obtain ⟨e2,-,-⟩:=hb.cap
 subst e1 e2
 unfold Pk.allFit
 have hB0:Below w.heap.size w (w.alloc (.cells #[.slice (some ⟨tg,0,none⟩) T.length tc,.slice ya yn yc] 87)):=(Below.refl _ _).alloc (Nat.le_refl _) _
 have T0:=alloc_blk w (.cells #[.slice (some ⟨tg,0,none⟩) T.length tc,.slice ya yn yc] 87)
 by_cases hne:a.length=b.length
 ·rw [if_pos hne]
  generalize hr:Pk.fitAll T a b=r
  have HR:Hid (Pk.fitAll T (a.drop 0) (b.drop 0)=r):=hr
  have hne':((a.length:Int) != (b.length:Int))=false:=by simp [hne]
  have HNE:=hide hne
  clear hr hne
  go_enter Tryz.func162,Tryz.ntmps162
  go_wp2
  go_loopw [16] (fun v wr=>∃ k:Nat,k≤a.length∧v=.int .i64 (k:Int)∧Hid (Pk.fitAll T (a.drop k) (b.drop k)=r)∧Below w.heap.size w wr∧wr.heap[w.heap.size]?=some (.cells #[.slice (some ⟨tg,0,none⟩) T.length tc,.slice ya yn yc] 87 (0,0)))
   (fun v _=>a.length - (intOf v).toNat)
  case atStart=>exact ⟨0,by omega,rfl,HR,hB0,T0⟩
  case round =>
   clear HR hB0 T0
   obtain ⟨k,hk,rfl,HR,hB,hC⟩:=hrel
   have hBs:=hB.size
   have hne:=unhide HNE
   by_cases hkn:k < a.length
   ·have hkb:k < b.length:=by omega
    obtain ⟨g,o,rfl,hg,hat⟩:=(ha.below hB).at (by omega)
    obtain ⟨g2,o2,rfl,hg2,hat2⟩:=(hb.below hB).at (by omega)
    obtain ⟨x0,x1⟩:=hat k hkn
    obtain ⟨y0,y1⟩:=hat2 k hkb
    have hd1:a.drop k=a[k] :: a.drop (k+1):=List.drop_eq_getElem_cons hkn
    have hd2:b.drop k=b[k] :: b.drop (k+1):=List.drop_eq_getElem_cons hkb
    have hr:=unhide HR
    rw [hd1,hd2,Pk.fitAll] at hr
    generalize a[k]=s at *
    generalize b[k]=t at *
    obtain ⟨s1,s2⟩:=s
    obtain ⟨t1,t2⟩:=t
    simp only at x0 x1 y0 y1 hr
    have f0:(wr.alloc (.cells #[.int .i64 s1,.int .i64 s2] 48)).cell? ⟨w.heap.size,0,none⟩=some (.slice (some ⟨tg,0,none⟩) T.length tc):=(blk_cell (stay1 hC (.cells #[.int .i64 s1,.int .i64 s2] 48)) 0).trans rfl
    have f1:(wr.alloc (.cells #[.int .i64 s1,.int .i64 s2] 48)).cell? ⟨w.heap.size,1,none⟩=some (.slice ya yn yc):=(blk_cell (stay1 hC (.cells #[.int .i64 s1,.int .i64 s2] 48)) 1).trans rfl
    have p0:(wr.alloc (.cells #[.int .i64 s1,.int .i64 s2] 48)).cell? ⟨wr.heap.size,0,none⟩=some (.int .i64 s1):=(blk_cell (alloc_blk wr (.cells #[.int .i64 s1,.int .i64 s2] 48)) 0).trans rfl
    have p1:(wr.alloc (.cells #[.int .i64 s1,.int .i64 s2] 48)).cell? ⟨wr.heap.size,1,none⟩=some (.int .i64 s2):=(blk_cell (alloc_blk wr (.cells #[.int .i64 s1,.int .i64 s2] 48)) 1).trans rfl
    have z0:=(World.cell?_alloc_lt wr (.cells #[.int .i64 s1,.int .i64 s2] 48) ⟨g2,o2+k * 2,none⟩ hg2).trans y0
    have z1:=(World.cell?_alloc_lt wr (.cells #[.int .i64 s1,.int .i64 s2] 48) ⟨g2,o2+k * 2+1,none⟩ hg2).trans y1
    have lF:=lt_of_block (stay1 hC (.cells #[.int .i64 s1,.int .i64 s2] 48))
    have lP:=lt_of_block (alloc_blk wr (.cells #[.int .i64 s1,.int .i64 s2] 48))
    have lG:g2 < (wr.alloc (.cells #[.int .i64 s1,.int .i64 s2] 48)).heap.size:=by simp; omega
    have hBX:=(hB.alloc hBs (.cells #[.int .i64 s1,.int .i64 s2] 48)).drew
    have hc:=tfits_any (ya:=ya) (yn:=yn) (yc:=yc) T tg tc s1 s2 t1 t2 _ hl (hT.below hBX)
    generalize Tr.fitsB T s1 s2 t1 t2=A at *
    have HC:=hide hc
    have kb:(k:Int) < (a.length:Int):=by omega
    have kb2:(k:Int) < (b.length:Int):=by omega
    clear hat hat2 hd1 hd2 hc HR hne
    go_wp2
    go_region_held3 (fun w'=>w'.cell? ⟨w.heap.size,0,none⟩=some (.slice (some ⟨tg,0,none⟩) T.length tc)∧w'.cell? ⟨w.heap.size,1,none⟩=some (.slice ya yn yc)∧w'.cell? ⟨wr.heap.size,0,none⟩=some (.int .i64 s1)∧w'.cell? ⟨wr.heap.size,1,none⟩=some (.int .i64 s2)∧w'.cell? ⟨g2,o2+k * 2,none⟩=some (.int .i64 t1)∧w'.cell? ⟨g2,o2+k * 2+1,none⟩=some (.int .i64 t2))
     (first | exact ⟨f0,f1,p0,p1,z0,z1⟩ | exact ⟨(hb7.cell lF).trans f0,(hb7.cell lF).trans f1,(hb7.cell lP).trans p0,(hb7.cell lP).trans p1,(hb7.cell lG).trans z0,(hb7.cell lG).trans z1⟩)
     (first | (go_at_call 92; refine (unhide HC).mono ?_; rintro e w7 ⟨rfl,hb7⟩))
    have hB7:=hBX.trans (hb7.mono hBX.size)
    have hC7:=stay hb7 (show (wr.alloc (.cells #[.int .i64 s1,.int .i64 s2] 48)).drew.heap[w.heap.size]?=_ from stay1 hC (.cells #[.int .i64 s1,.int .i64 s2] 48))
    clear hb7 x0 x1 y0 y1 z0 z1 f0 f1 p0 p1 HC
    cases A with
    | true =>
     have HG:Hid (Pk.fitAll T (a.drop (k+1)) (b.drop (k+1))=r):=by unfold Hid; rw [← hr]; simp
     clear hr
     go_wp2
     go_roundw
     case rel=>exact ⟨k+1,by omega,by go_num,HG,hB7,hC7⟩
     case measure=>simp [intOf]; omega
    | false =>
     have HE:Hid (r=false):=by unfold Hid; rw [← hr]; simp
     clear hr
     go_wp2
     go_ret
     exact ⟨by rw [unhide HE]; rfl,hB7⟩
   ·have HE:Hid (r=true):=by unfold Hid; rw [← unhide HR,List.drop_eq_nil_of_le (show b.length≤k by omega),Pk.fitAll]
    have kb:¬ (k:Int) < (a.length:Int):=by omega
    clear HR hne
    go_wp2
    go_ret
    exact ⟨by rw [unhide HE]; rfl,hB⟩
 ·rw [if_neg hne]
  have hne':((a.length:Int) != (b.length:Int))=true:=by simp; omega
  clear hne
  go_enter Tryz.func162,Tryz.ntmps162
  go_wp2
  go_ret
  exact ⟨rfl,hB0⟩

set_option maxRecDepth 100000 in
set_option maxHeartbeats 8000000 in
theorem pfits_any (T:List Int) (tg tc:Nat) (u v:FrV) (x y:Ck.Fr) (w:World) (hl:T.length≤1000) (hT:TreeIn w tg T) (hu:u.is x w) (hv:v.is y w) :
  Calls Tryz.prog 118 #[u.val,.agg #[.slice (some ⟨tg,0,none⟩) T.length tc,.slice ya yn yc],v.val] w fun e w'=>e=.returned (.bool (Pk.frameFits T x y))∧Below w.heap.size w w':=by
 have h1:=fun w' (h:Below w.heap.size w w')=>allFit_any (ya:=ya) (yn:=yn) (yc:=yc) T tg tc x.locals y.locals u.la v.la u.ln u.lc v.ln v.lc w' hl (hT.below h) (hu.lo.below h) (hv.lo.below h) (by have:=hu.hl; omega) (by have:=hv.hl; omega)
 have h2:=fun w' (h:Below w.heap.size w w')=>allFit_any (ya:=ya) (yn:=yn) (yc:=yc) T tg tc x.stack y.stack u.sa v.sa u.sn u.sc v.sn v.sc w' hl (hT.below h) (hu.st.below h) (hv.st.below h) (by have:=hu.hs; omega) (by have:=hv.hs; omega)
 unfold Pk.frameFits
 generalize Pk.allFit T x.locals y.locals=P at *
 generalize Pk.allFit T x.stack y.stack=Q at *
 obtain ⟨la,ln,lc,sa,sn,sc⟩:=u
 obtain ⟨la',ln',lc',sa',sn',sc'⟩:=v
 simp only [FrV.val] at h1 h2 ⊢
 have H1:=hide h1
 have H2:=hide h2
 clear h1 h2 hu hv
 have hB0:=below3 w (.cells #[.slice la ln lc,.slice sa sn sc] 149) (.cells #[.slice (some ⟨tg,0,none⟩) T.length tc,.slice ya yn yc] 87) (.cells #[.slice la' ln' lc',.slice sa' sn' sc'] 149)
 obtain ⟨A0,T0,B0⟩:=blks3 w (.cells #[.slice la ln lc,.slice sa sn sc] 149) (.cells #[.slice (some ⟨tg,0,none⟩) T.length tc,.slice ya yn yc] 87) (.cells #[.slice la' ln' lc',.slice sa' sn' sc'] 149)
 cases P with
 | false =>
  go_enter Tryz.func118,Tryz.ntmps118
  go_wp2_with fail
  refine (unhide H1 _ hB0).mono ?_
  rintro e w1 ⟨rfl,hb1⟩
  go_wp2
  go_ret
  exact ⟨rfl,hB0.trans (hb1.mono hB0.size)⟩
 | true =>
  go_enter Tryz.func118,Tryz.ntmps118
  go_wp2_with fail
  refine (unhide H1 _ hB0).mono ?_
  rintro e w1 ⟨rfl,hb1⟩
  have hB1:=hB0.trans (hb1.mono hB0.size)
  have a1:=blk_cell (stay hb1 A0) 1
  have t0:=blk_cell (stay hb1 T0) 0
  have t1:=blk_cell (stay hb1 T0) 1
  have b1:=blk_cell (stay hb1 B0) 1
  simp at a1 t0 t1 b1
  clear hb1
  go_wp2_with fail
  refine (unhide H2 _ hB1).mono ?_
  rintro e w2 ⟨rfl,hb2⟩
  go_wp2
  go_ret
  exact ⟨rfl,hB1.trans (hb2.mono hB1.size)⟩

set_option maxRecDepth 100000 in
set_option maxHeartbeats 4000000 in
theorem mapped_any (m:Int) (v:FrV) (w:World):Calls Tryz.prog 119 #[.agg #[.int .i64 m,.slice v.la v.ln v.lc,.slice v.sa v.sn v.sc]] w fun e w'=>e=.returned v.val∧Below w.heap.size w w':=by
 obtain ⟨la,ln,lc,sa,sn,sc⟩:=v
 simp only [FrV.val]
 go_enter Tryz.func119,Tryz.ntmps119
 go_wp2
 refine bodyPost_ret (v:=.agg #[.slice la ln lc,.slice sa sn sc]) (by simp [results,Tryz.results119,go_sem]) rfl ?_
 exact ⟨rfl,below2 _ _ _⟩

set_option maxRecDepth 100000 in
set_option maxHeartbeats 4000000 in
theorem caught_any (c:Int) (v:FrV) (x:Ck.Fr) (w:World) (hv:v.is x w):Calls Tryz.prog 164 #[v.val,.int .i64 c] w fun e w'=>∃ u:FrV,e=.returned u.val∧u.is ⟨x.locals,[(3,c)]⟩ w'∧Below w.heap.size w w':=by
 obtain ⟨la,ln,lc,sa,sn,sc⟩:=v
 have hlo:=hv.lo
 have hll:=hv.hl
 simp only [FrV.val] at hlo ⊢
 clear hv
 have hB0:=below2 w (.cells #[.slice la ln lc,.slice sa sn sc] 149) (.cells #[.slice none 0 0,.slice none 0 0] 149)
 have A0:=alloc1_blk w (.cells #[.slice la ln lc,.slice sa sn sc] 149) (.cells #[.slice none 0 0,.slice none 0 0] 149)
 have R0:=alloc2_blk w (.cells #[.slice la ln lc,.slice sa sn sc] 149) (.cells #[.slice none 0 0,.slice none 0 0] 149)
 have a0:((w.alloc (.cells #[.slice la ln lc,.slice sa sn sc] 149)).alloc (.cells #[.slice none 0 0,.slice none 0 0] 149)).cell? ⟨w.heap.size,0,none⟩=some (.slice la ln lc):=(blk_cell A0 0).trans rfl
 have lA:=lt_of_block A0
 have lR:=lt_of_block R0
 go_enter Tryz.func164,Tryz.ntmps164
 go_wp2
 go_region_held3 (fun w'=>w'.cell? ⟨w.heap.size,0,none⟩=some (.slice la ln lc))
  (first | exact a0 | exact (hb5.cell lA).trans a0 | exact (World.cell?_alloc_lt _ _ _ (Nat.lt_of_lt_of_le lA hb5.size)).trans ((hb5.cell lA).trans a0) | exact (World.cell?_alloc_lt _ _ _ (by have:=hb5.size; simp at this ⊢; omega)).trans ((World.cell?_setCell_far _ _ _ _ (by (try simp) <;> omega)).trans ((World.cell?_setCell_far _ _ _ _ (by (try simp) <;> omega)).trans ((hb5.cell lA).trans a0))))
  (first | (go_at_call 116; refine (pref_any c _).mono ?_; rintro e w5 ⟨rfl,hb5⟩; have R5:=stay hb5 (show _=_ from R0); have z0:=blk_cell R5 0; have z1:=blk_cell R5 1; have q0:=blk_free R5 0; have q1:=blk_free R5 1; have lr5:=lt_of_block R5; simp at z0 z1))
 have hB5:=hB0.drew.trans (hb5.mono (by simp; omega))
 have hs5:=hB5.size
 have hsz:((w5.setCell ⟨w.heap.size+1,0,none⟩ (.slice la ln lc)).setCell ⟨w.heap.size+1,1,none⟩ (.slice (some ⟨w5.heap.size,0,none⟩) 1 1)).heap.size=w5.heap.size:=by simp [World.setCell]
 have ht:=TyR.new1 ((w5.setCell ⟨w.heap.size+1,0,none⟩ (.slice la ln lc)).setCell ⟨w.heap.size+1,1,none⟩ (.slice (some ⟨w5.heap.size,0,none⟩) 1 1)) 3 c
 rw [hsz] at ht
 have hB6:=((hB5.setCell (p:=⟨w.heap.size+1,0,none⟩) (by simp) (.slice la ln lc)).setCell (p:=⟨w.heap.size+1,1,none⟩) (by simp) (.slice (some ⟨w5.heap.size,0,none⟩) 1 1)).alloc (by rw [hsz]; exact hs5) (.cells #[.int .i64 3,.int .i64 c] 48)
 go_wp2_with fail
 refine bodyPost_ret (v:=.agg #[.slice la ln lc,.slice (some ⟨w5.heap.size,0,none⟩) 1 1]) (by simp [results,Tryz.results164,go_sem,z0,z1,lr5]) rfl ?_
 exact ⟨⟨la,ln,lc,some ⟨w5.heap.size,0,none⟩,1,1⟩,rfl,⟨hlo.below hB6,ht,hll,by simp⟩,hB6⟩

def Pk.covers (h:Rd.Hnd) (p:Int):Bool:=decide (h.frm≤p) && decide (p < h.til)
set_option maxRecDepth 100000 in
set_option maxHeartbeats 4000000 in
theorem covers_any (h:Rd.Hnd) (p:Int) (w:World):Calls Tryz.prog 163 #[.agg #[.int .i64 h.frm,.int .i64 h.til,.int .i64 h.target,.int .i64 h.cl],.int .i64 p] w fun e w'=>e=.returned (.bool (Pk.covers h p))∧Below w.heap.size w w':=by
 obtain ⟨h1,h2,h3,h4⟩:=h
 unfold Pk.covers
 by_cases c1:h1≤p
 ·by_cases c2:p < h2
  ·go_enter Tryz.func163,Tryz.ntmps163
   go_wp2
   go_ret
   exact ⟨by simp [c1,c2],(Below.refl _ _).alloc (Nat.le_refl _) _⟩
  ·go_enter Tryz.func163,Tryz.ntmps163
   go_wp2
   go_ret
   exact ⟨by simp [c2],(Below.refl _ _).alloc (Nat.le_refl _) _⟩
 ·go_enter Tryz.func163,Tryz.ntmps163
  go_wp2
  go_ret
  exact ⟨by simp; omega,(Below.refl _ _).alloc (Nat.le_refl _) _⟩

set_option maxRecDepth 100000 in
set_option maxHeartbeats 4000000 in
theorem goesToN_any (op:Int) (w:World):Calls Tryz.prog 122 #[.int .i64 op] w fun e w'=>e=.returned (.bool (Ck.jumps op))∧w'=w:=by
 unfold Ck.jumps
 by_cases h:op=11∨op=12∨op=13∨op=14
 ·rw [decide_eq_true h]
  rcases h with rfl | rfl | rfl | rfl
  all_goals
   go_enter Tryz.func122,Tryz.ntmps122
   go_wp2
   go_ret
   exact ⟨rfl,rfl⟩
 ·rw [decide_eq_false h]
  have n11:(op == 11)=false:=by simp; omega
  have n12:(op == 12)=false:=by simp; omega
  have n13:(op == 13)=false:=by simp; omega
  have n14:(op == 14)=false:=by simp; omega
  clear h
  go_enter Tryz.func122,Tryz.ntmps122
  go_wp2
  go_ret
  exact ⟨rfl,rfl⟩
set_option maxRecDepth 100000 in
set_option maxHeartbeats 4000000 in
theorem goesOn_any (op:Int) (w:World):Calls Tryz.prog 78 #[.int .i64 op] w fun e w'=>e=.returned (.bool (Ck.goes op))∧w'=w:=by
 unfold Ck.goes
 by_cases h:op=11∨op=22∨op=23
 ·rw [decide_eq_false (fun g=>g h)]
  rcases h with rfl | rfl | rfl
  all_goals
   go_enter Tryz.func78,Tryz.ntmps78
   go_wp2
   go_ret
   exact ⟨rfl,rfl⟩
 ·rw [decide_eq_true h]
  have n11:(op == 11)=false:=by simp; omega
  have n12:(op == 22)=false:=by simp; omega
  have n13:(op == 23)=false:=by simp; omega
  clear h
  go_enter Tryz.func78,Tryz.ntmps78
  go_wp2
  go_ret
  exact ⟨rfl,rfl⟩
end Go.Proofs.YteffpdofcgbokaaGreat
