/- a part of the proofs -/
import Derived.Laws.Rows
import Derived.Deep.Cut
import Derived.Deep.CutRange
import Derived.Test.YtpcgnjolfahacaaGreatPk10
set_option maxRecDepth 100000
set_option maxHeartbeats 40000000
set_option linter.unusedVariables false
set_option linter.unusedSimpArgs false
namespace Go.Proofs.YtpcgnjolfahacaaGreat
open Go.RowKit
theorem Mo (m:PM) (ps:List (Int × Int)) (lo':Nat) (w:World) (hlo:m.lo=(lo':Int)) (hl8:lo'≤1000) (hps:TyR w (.slice m.pa m.pl m.pc) ps) (hp8:ps.length≤1000) :
  Calls Tryz.prog 110 #[m.val] w fun e w'=>∃ v:FrV,e=.returned v.val∧v.is (Aiy m.cl ps lo') w'∧Below w.heap.size w w':=by
 obtain⟨i0,hi,hz0,hz1,hz2⟩:=info_parts Tryz.infoType;obtain⟨cl,nm,pa,pl,pc,r1,r2,lo,st,ca,cn,cc,ha,hl,hc,ma,ml,mc⟩:=m;simp only[PM.val]at hlo hps ⊢;subst hlo;have hRR:=fun w=>Di cl w;have HRR:=Ac hRR;clear hRR;have hB0:=Ai w (O12 cl nm pa pl pc r1 r2 (lo':Int) st ca cn cc ha hl hc ma ml mc) (O18 none 0 0 none 0 0);have C0:=Ak w (O12 cl nm pa pl pc r1 r2 (lo':Int) st ca cn cc ha hl hc ma ml mc) (O18 none 0 0 none 0 0);have D0:=Ah w (O12 cl nm pa pl pc r1 r2 (lo':Int) st ca cn cc ha hl hc ma ml mc) (O18 none 0 0 none 0 0);unfold Aiy;generalize hO:Ajq cl ps=O;unfold Ajq at hO
 -- what follows the head, for either head
 by_cases h1:cl=255
 ·subst h1;rw[if_pos rfl,List.nil_append]at hO;subst hO;go_enter Tryz.func110,Tryz.ntmps110;go_wp2_with (at_builtin;refine Er rfl _ _ rfl (w.heap.size+1+1) _ [] ps pa pl pc rfl (World.ownsRow_nil _ _ _ _) rfl (hps.below hB0) (by simp;omega) (by simp) ?_)
  intro v' w1 hown1 hgrow;have hB1:=hB0.grown hgrow (by simp;omega) (fun j hj=>by simp[Value.ownBlock]at hj);have C1:=(hgrow.block _ (lt_of_block C0) (by simp[Value.ownBlock])).trans C0;have D1:=(hgrow.block _ (lt_of_block D0) (by simp[Value.ownBlock])).trans D0;clear hgrow C0 D0 hB0;have hs1:=hB1.size;have hown1':w1.ownsRow (w.heap.size+1+1) 31 2 v' (ps++List.replicate 0 ((0:Int),(0:Int))).length (An (ps++List.replicate 0 ((0:Int),(0:Int)))):=by simpa using hown1
  go_wp2
  go_loopw [3] (fun v wr=>∃ q:Nat,q≤lo' - ps.length∧wr.ownsRow (w.heap.size+1+1) 31 2 v (ps.length+q) (An (ps++List.replicate q ((0:Int),(0:Int))))∧Below w.heap.size w wr∧wr.heap[w.heap.size]?=some (O12 255 nm pa pl pc r1 r2 (lo':Int) st ca cn cc ha hl hc ma ml mc)∧wr.heap[w.heap.size+1]?=some (O18 none 0 0 none 0 0))
   (fun v _=>lo' - Iz v)
  case atStart=>exact⟨0,by omega,by simpa using hown1',hB1,C1,D1⟩
  case round =>
   clear hown1 hown1' hB1 C1 D1 hs1;obtain⟨q,hq,hown,hB,hC,hD⟩:=hrel;have hBs:=hB.size;have lC:=lt_of_block hC;have lD:=lt_of_block hD;obtain⟨ua,uc,rfl⟩:=Ae hown;have x5:=Ab hC 5;simp at x5;by_cases hkn:ps.length+q<lo'
   ·have kb:((ps.length+q:Nat):Int)<(lo':Int):=by omega
    have HD:Hid (ps++List.replicate (q+1) ((0:Int),(0:Int))=ps++List.replicate q ((0:Int),(0:Int))++[((0:Int),(0:Int))]):=by unfold Hid;rw[List.replicate_succ',List.append_assoc]
    go_wp2_with fail
    refine(Ix _).mono ?_;rintro e wt ⟨rfl,hbt⟩;replace hown:=Am hown (Kp.of_below (e:=none) hbt) (by decide);replace hB:=hB.trans (hbt.mono hBs);replace hC:=stay hbt hC;replace hD:=stay hbt hD;replace hBs:=hB.size;replace lC:=lt_of_block hC;replace lD:=lt_of_block hD;clear hbt x5;go_wp2_with (at_builtin;refine wpList_append_own _ rfl _ _ 105 rfl (w.heap.size+1+1) 31 i0 _ 2 16 Tryz.underlying105 hi hz0 hz1 hz2 rfl (by decide) _ _ _ rfl (hown.alloc _) ⟨wt.heap.size,0,none⟩ 1 1 [.int .i64 0,.int .i64 0] rfl rfl ?c1 ?c2 ?c3 ?c4 ?c5 ?_)
    case c1=>exact Ar _ _ _ _ rfl
    case c2=>intro u hu;simp at hu;subst hu;rfl
    case c3=>unfold maxLen;omega
    case c4=>omega
    case c5=>simp;omega
    intro v2 w2 hown2 hgrow2 _;have hB2:=(hB.alloc hBs (O7 0 0)).grown hgrow2 (by simp;omega) (fun j hj=>by have:=(hown.lt j hj).1;omega);have C2:=(hgrow2.block _ (lt_of_block (Af hC (O7 0 0))) (fun hh=>by have:=(hown.lt _ hh.symm).1;omega)).trans (Af hC (O7 0 0));have D2:=(hgrow2.block _ (lt_of_block (Af hD (O7 0 0))) (fun hh=>by have:=(hown.lt _ hh.symm).1;omega)).trans (Af hD (O7 0 0));obtain⟨ua2,uc2,rfl⟩:=Ae hown2;have hown3:w2.ownsRow (w.heap.size+1+1) 31 2 (.slice ua2 (ps.length+q+1) uc2) (ps.length+(q+1)) (An (ps++List.replicate (q+1) ((0:Int),(0:Int)))):=by rw[Aa HD,Ew];exact hown2
    clear hgrow2 hown hown2 hB hC hD;go_wp2
    go_roundw
    case rel=>exact⟨q+1,by omega,hown3,hB2,C2,D2⟩
    case measure=>simp[Iz];omega
   ·have kb:¬ ((ps.length+q:Nat):Int)<(lo':Int):=by omega
    have eq:lo' - ps.length=q:=by omega
    obtain⟨z0,z1⟩:=cl2 hD;obtain⟨q0,q1⟩:=fr2 hD;simp at z0 z1;have hk1:=(Kp.set_lo (e:=none) (b:=w.heap.size+1+1) (i:=0) (g:=w.heap.size+1) (w:=wr) (by omega) (.slice ua (ps.length+q) uc)).trans (Kp.set_lo (i:=1) (g:=w.heap.size+1) (by omega) (.slice none 0 0));have hown3:=Am hown hk1 (by decide);have HEQ:=Ac eq;clear eq;go_wp2_with fail
    refine bodyPost_ret (v:=.agg #[.slice ua (ps.length+q) uc,.slice none 0 0]) (by simp[results,Tryz.results110,go_sem,z0,z1]) rfl ?_;refine⟨⟨ua,ps.length+q,uc,none,0,0⟩,rfl,⟨?_,TyR.nil _,?_,Nat.zero_le _⟩,(hB.setCell (by simp) _).setCell (by simp) _⟩
    ·rw[Aa HEQ];exact Fd hown3 (by simp)
    ·rw[Aa HEQ]
     simp
     omega
 ·have h1':(cl != 255)=true:=by simpa using h1
  rw[if_neg h1]at hO;clear h1;go_enter Tryz.func110,Tryz.ntmps110;go_wp2_with fail
  refine(Aa HRR _).mono ?_;rintro e w0 ⟨rfl,hb0⟩;have hB0':=QB hB0 hb0;have C0':=stay hb0 C0;have D0':=stay hb0 D0;have hs0:=hB0'.size;have ls0:=lt_of_block D0';have x2:=Ab C0' 2;have lC0:=lt_of_block C0';simp at x2;go_wp2_with (at_builtin;refine wpList_append_own _ rfl _ _ 105 rfl (w.heap.size+1+1) 31 i0 _ 2 16 Tryz.underlying105 hi hz0 hz1 hz2 rfl (by decide) _ _ _ rfl (World.ownsRow_nil _ _ _ _) ⟨w0.heap.size,0,none⟩ 1 1 [.int .i64 3,.int .i64 cl] rfl rfl ?c1 ?c2 ?c3 ?c4 ?c5 ?_)
  case c1=>exact Ar _ _ _ _ rfl
  case c2=>intro u hu;simp at hu;rcases hu with rfl | rfl<;>rfl
  case c3=>unfold maxLen;omega
  case c4=>omega
  case c5=>simp;omega
  intro v0 w00 hown0 hgrow0 _;have hB00:=(hB0'.alloc hs0 (O7 3 cl)).grown hgrow0 (by simp;omega) (fun j hj=>by simp[Value.ownBlock]at hj);have C00:=(hgrow0.block _ (lt_of_block (Af C0' (O7 3 cl))) (by simp[Value.ownBlock])).trans (Af C0' (O7 3 cl));have D00:=(hgrow0.block _ (lt_of_block (Af D0' (O7 3 cl))) (by simp[Value.ownBlock])).trans (Af D0' (O7 3 cl));have hown0':w00.ownsRow (w.heap.size+1+1) 31 2 v0 ([((3:Int),cl)]:List (Int × Int)).length (An [((3:Int),cl)]):=by simpa[An] using hown0
  have hs00:=hB00.size;have ls00:=lt_of_block D00;have lC00:=lt_of_block C00;have x2':=Ab C00 2;simp at x2';clear hgrow0 hown0 C0 D0 hB0 hb0 C0' D0' hB0' x2;go_wp2_with (at_builtin;refine Er rfl _ _ rfl (w.heap.size+1+1) _ [(3,cl)] ps pa pl pc rfl hown0' rfl (hps.below hB00) (by simp;omega) (by omega) ?_)
  intro v' w1 hown1 hgrow;have hB1:=hB00.grown hgrow (by omega) (fun j hj=>by have:=(hown0'.lt j hj).1;omega);have C1:=(hgrow.block _ (lt_of_block C00) (fun hh=>by have:=(hown0'.lt _ hh.symm).1;omega)).trans C00;have D1:=(hgrow.block _ (lt_of_block D00) (fun hh=>by have:=(hown0'.lt _ hh.symm).1;omega)).trans D00;have hOl:([((3:Int),cl)]++ps).length≤1001:=by simp;omega
  have hown1':w1.ownsRow (w.heap.size+1+1) 31 2 v' O.length (An O):=hown1;rw[hO]at hOl;have HOL:=hOl;clear hgrow C00 D00 hB00 hown0' hown1 hO x2';have hs1:=hB1.size;go_wp2
  go_loopw [3] (fun v wr=>∃ q:Nat,q≤lo' - O.length∧wr.ownsRow (w.heap.size+1+1) 31 2 v (O.length+q) (An (O++List.replicate q ((0:Int),(0:Int))))∧Below w.heap.size w wr∧wr.heap[w.heap.size]?=some (O12 cl nm pa pl pc r1 r2 (lo':Int) st ca cn cc ha hl hc ma ml mc)∧wr.heap[w.heap.size+1]?=some (O18 none 0 0 none 0 0))
   (fun v _=>lo' - Iz v)
  case atStart=>exact⟨0,by omega,by simpa using hown1',hB1,C1,D1⟩
  case round =>
   clear hown1' hB1 C1 D1 hs1;obtain⟨q,hq,hown,hB,hC,hD⟩:=hrel;have hBs:=hB.size;have lC:=lt_of_block hC;have lD:=lt_of_block hD;obtain⟨ua,uc,rfl⟩:=Ae hown;have x5:=Ab hC 5;simp at x5;by_cases hkn:O.length+q<lo'
   ·have kb:((O.length+q:Nat):Int)<(lo':Int):=by omega
    have HD:Hid (O++List.replicate (q+1) ((0:Int),(0:Int))=O++List.replicate q ((0:Int),(0:Int))++[((0:Int),(0:Int))]):=by unfold Hid;rw[List.replicate_succ',List.append_assoc]
    go_wp2_with fail
    refine(Ix _).mono ?_;rintro e wt ⟨rfl,hbt⟩;replace hown:=Am hown (Kp.of_below (e:=none) hbt) (by decide);replace hB:=hB.trans (hbt.mono hBs);replace hC:=stay hbt hC;replace hD:=stay hbt hD;replace hBs:=hB.size;replace lC:=lt_of_block hC;replace lD:=lt_of_block hD;clear hbt x5;go_wp2_with (at_builtin;refine wpList_append_own _ rfl _ _ 105 rfl (w.heap.size+1+1) 31 i0 _ 2 16 Tryz.underlying105 hi hz0 hz1 hz2 rfl (by decide) _ _ _ rfl (hown.alloc _) ⟨wt.heap.size,0,none⟩ 1 1 [.int .i64 0,.int .i64 0] rfl rfl ?c1 ?c2 ?c3 ?c4 ?c5 ?_)
    case c1=>exact Ar _ _ _ _ rfl
    case c2=>intro u hu;simp at hu;subst hu;rfl
    case c3=>unfold maxLen;omega
    case c4=>omega
    case c5=>simp;omega
    intro v2 w2 hown2 hgrow2 _;have hB2:=(hB.alloc hBs (O7 0 0)).grown hgrow2 (by simp;omega) (fun j hj=>by have:=(hown.lt j hj).1;omega);have C2:=(hgrow2.block _ (lt_of_block (Af hC (O7 0 0))) (fun hh=>by have:=(hown.lt _ hh.symm).1;omega)).trans (Af hC (O7 0 0));have D2:=(hgrow2.block _ (lt_of_block (Af hD (O7 0 0))) (fun hh=>by have:=(hown.lt _ hh.symm).1;omega)).trans (Af hD (O7 0 0));obtain⟨ua2,uc2,rfl⟩:=Ae hown2;have hown3:w2.ownsRow (w.heap.size+1+1) 31 2 (.slice ua2 (O.length+q+1) uc2) (O.length+(q+1)) (An (O++List.replicate (q+1) ((0:Int),(0:Int)))):=by rw[Aa HD,Ew];exact hown2
    clear hgrow2 hown hown2 hB hC hD;go_wp2
    go_roundw
    case rel=>exact⟨q+1,by omega,hown3,hB2,C2,D2⟩
    case measure=>simp[Iz];omega
   ·have kb:¬ ((O.length+q:Nat):Int)<(lo':Int):=by omega
    have eq:lo' - O.length=q:=by omega
    obtain⟨z0,z1⟩:=cl2 hD;obtain⟨q0,q1⟩:=fr2 hD;simp at z0 z1;have hk1:=(Kp.set_lo (e:=none) (b:=w.heap.size+1+1) (i:=0) (g:=w.heap.size+1) (w:=wr) (by omega) (.slice ua (O.length+q) uc)).trans (Kp.set_lo (i:=1) (g:=w.heap.size+1) (by omega) (.slice none 0 0));have hown3:=Am hown hk1 (by decide);have HEQ:=Ac eq;clear eq;go_wp2_with fail
    refine bodyPost_ret (v:=.agg #[.slice ua (O.length+q) uc,.slice none 0 0]) (by simp[results,Tryz.results110,go_sem,z0,z1]) rfl ?_;refine⟨⟨ua,O.length+q,uc,none,0,0⟩,rfl,⟨?_,TyR.nil _,?_,Nat.zero_le _⟩,(hB.setCell (by simp) _).setCell (by simp) _⟩
    ·rw[Aa HEQ];exact Fd hown3 (by simp)
    ·rw[Aa HEQ]
     simp
     omega
def PBd.pval (b:PBd):Value:=.agg #[.slice (some ⟨b.tg,0,none⟩) b.T.length b.tc,.slice b.ya b.yn b.yc,.int .i64 b.cl,.int .i64 b.nm,.slice b.pa b.pl b.pc,.int .i64 b.r1,.int .i64 b.r2,.int .i64 b.lo,.int .i64 b.st,.slice b.ca b.cn b.cc,.slice b.ha b.hl b.hc,.slice b.ma b.ml b.mc,.slice b.la b.L.length b.lc,
 .slice b.fa1 b.fl1 b.fc1,.slice b.fa2 b.fl2 b.fc2,.slice (some ⟨b.tg,0,none⟩) b.T.length b.tc,.slice b.ya b.yn b.yc,.int .i64 b.cl,.int .i64 b.nm,.slice b.pa b.pl b.pc,.int .i64 b.r1,.int .i64 b.r2,.int .i64 b.lo,.int .i64 b.st,.slice b.ca b.cn b.cc,.slice b.ha b.hl b.hc,.slice b.ma b.ml b.mc,.slice b.la b.L.length b.lc]
theorem Tryz.infoPass:(Tryz.prog.info? 212).map (·.size)=some 28:=by kernel_rfl
def MpSays (b:PBd) (mp:Int→Option Afb) (w:World):Prop:=∀ q w',Below w.heap.size w w'→Calls Tryz.prog 185 #[b.pval,.int .i64 q] w' fun e w''=>∃ u:FrV,e=.returned (.tuple #[u.val,.bool (mp q).isSome])∧u.is (Afs (mp q)) w''∧Below w'.heap.size w' w''
theorem MpSays.below {b:PBd}{mp:Int→Option Afb}{w w':World} (h:MpSays b mp w) (hb:Below w.heap.size w w'):MpSays b mp w':=fun q w'' h'=>h q w'' (hb.trans (h'.mono hb.size))
theorem Vs (b:PBd) (lm:List (Rd.Mp × Value × Value)) (bb:Nat) (p:Int) (w:World) (hml:b.ml=lm.length) (hm4:lm.length≤1000) (hfr:∀ q∈lm,q.1.locals.length≤5000∧q.1.stack.length≤5000) (hh:MpsIn w bb (.slice b.ma b.ml b.mc) lm) :
  Calls Tryz.prog 185 #[b.pval,.int .i64 p] w fun e w'=>∃ v:FrV,e=.returned (.tuple #[v.val,.bool (Ag8 p (lm.map Prod.fst)).isSome])∧v.is (Afs (Ag8 p (lm.map Prod.fst))) w'∧Below w.heap.size w w':=by
 generalize hr:Ag8 p (lm.map Prod.fst)=r;have HR:Hid (Ag8 p ((lm.map Prod.fst).drop 0)=r):=hr;obtain⟨fa1,fl1,fc1,fa2,fl2,fc2,tg,tc,ya,yn,yc,cl,nm,pa,pl,pc,r1,r2,lo,st,ca,cn,cc,ha,hl,hc,ma,ml,mc,la,lc,T,L⟩:=b;simp only at hml hh;subst hml;simp only[PBd.pval];have HMP:Hid (∀ w',Below w.heap.size w w'→MpsIn w' bb (.slice ma lm.length mc) lm):=fun w' h=>hh.kp (Kp.of_below (e:=none) h) (by decide) (by decide);have HFR:=Ac hfr;clear hr hh hfr;have hB0:=Ai w ((O20 (some ⟨tg,0,none⟩) T.length tc ya yn yc cl nm pa pl pc r1 r2 lo st ca cn cc ha hl hc ma lm.length mc la L.length lc fa1 fl1 fc1 fa2 fl2 fc2 (some ⟨tg,0,none⟩) T.length tc ya yn yc cl nm pa pl pc r1 r2 lo st ca cn cc ha hl hc ma lm.length mc la L.length lc)) (O18 none 0 0 none 0 0);have R0:=Ah w ((O20 (some ⟨tg,0,none⟩) T.length tc ya yn yc cl nm pa pl pc r1 r2 lo st ca cn cc ha hl hc ma lm.length mc la L.length lc fa1 fl1 fc1 fa2 fl2 fc2 (some ⟨tg,0,none⟩) T.length tc ya yn yc cl nm pa pl pc r1 r2 lo st ca cn cc ha hl hc ma lm.length mc la L.length lc)) (O18 none 0 0 none 0 0);go_enter Tryz.func185,Tryz.ntmps185;go_wp2
 go_loopw [12] (fun v wr=>∃ k:Nat,k≤lm.length∧v=.int .i64 (k:Int)∧Hid (Ag8 p ((lm.map Prod.fst).drop k)=r)∧Below w.heap.size w wr∧wr.heap[w.heap.size+1]?=some (O18 none 0 0 none 0 0))
  (fun v _=>lm.length-(intOf v).toNat)
 case atStart=>exact⟨0,by omega,rfl,HR,hB0,R0⟩
 case round =>
  clear HR hB0 R0;obtain⟨k,hk,rfl,HR,hB,CR⟩:=hrel;have hBs:=hB.size;have lR:=lt_of_block CR;by_cases hkn:k<lm.length
  ·have hmr:=Aa HMP _ hB;obtain⟨g,hg,hglt,_,hcell⟩:=Ao hmr.1 (by omega);have y0:=(hcell _ (Bo lm k hkn 0 (by omega)).2).trans (Bo lm k hkn 0 (by omega)).1;have y1:=(hcell _ (Bo lm k hkn 1 (by omega)).2).trans (Bo lm k hkn 1 (by omega)).1;have y2:=(hcell _ (Bo lm k hkn 2 (by omega)).2).trans (Bo lm k hkn 2 (by omega)).1;obtain⟨ht1,ht2⟩:=hmr.2 _ (List.getElem_mem hkn);obtain⟨hl1,hl2⟩:=Aa HFR _ (List.getElem_mem hkn);have hd:(lm.map Prod.fst).drop k=lm[k].1::(lm.map Prod.fst).drop (k+1):=by rw[List.drop_eq_getElem_cons (by simpa using hkn)];simp
   have hr:=Aa HR;rw[hd,Ag8]at hr;generalize lm[k]=x at *;obtain⟨⟨plc,loc,stk⟩,v1,v2⟩:=x;simp only at y0 y1 y2 ht1 ht2 hl1 hl2 hr;obtain⟨v1a,v1c,rfl⟩:=Ae ht1;obtain⟨v2a,v2c,rfl⟩:=Ae ht2;simp at y0 y1 y2;subst hg;have kb:(k:Int)<(lm.length:Int):=by omega
   have hBx:=hB.alloc hBs (O11 plc v1a loc.length v1c v2a stk.length v2c);have CR1:=Af CR (O11 plc v1a loc.length v1c v2a stk.length v2c);clear hcell hd HR;by_cases he:plc=p
   ·rw[if_pos he]at hr;have he':(plc==p)=true:=by simp[he]
    have HE:=Ac hr;have hma:=V9 plc ⟨v1a,loc.length,v1c,v2a,stk.length,v2c⟩ (wr.alloc (O11 plc v1a loc.length v1c v2a stk.length v2c));simp only[FrV.val]at hma;have HMA:=Ac hma;clear hr he hma;go_wp2_with fail
    refine(Aa HMA).mono ?_;rintro e w1 ⟨rfl,hb1⟩;have CR2:=stay hb1 CR1;obtain⟨z0,z1⟩:=cl2 CR2;obtain⟨q0,q1⟩:=fr2 CR2;have lr:=lt_of_block CR2;simp at z0 z1;have hB2:=QB hBx hb1;have hs2:=hB2.size;have ht1':=(TyR.of_tys ht1).below ((QN (O11 plc v1a loc.length v1c v2a stk.length v2c)).trans (hb1.mono (by simp)));have ht2':=(TyR.of_tys ht2).below ((QN (O11 plc v1a loc.length v1c v2a stk.length v2c)).trans (hb1.mono (by simp)));go_wp2_with fail
    obtain rfl:=Aa HE;refine bodyPost_ret (v:=.tuple #[.agg #[.slice v1a loc.length v1c,.slice v2a stk.length v2c],.bool true]) (by simp[results,Tryz.results185,go_sem,z0,z1]) rfl ?_;exact⟨⟨v1a,loc.length,v1c,v2a,stk.length,v2c⟩,rfl,FrV.is.set2 ⟨ht1',ht2',hl1,hl2⟩ CR2 _ _,(hB2.setCell (by simp) _).setCell (by simp) _⟩
   ·rw[if_neg he]at hr;have he':(plc==p)=false:=by simp[he]
    have HG:Hid (Ag8 p ((lm.map Prod.fst).drop (k+1))=r):=hr;clear hr he;go_wp2
    go_roundw
    case rel=>exact⟨k+1,by omega,by go_num,HG,hBx,CR1⟩
    case measure=>simp[intOf];omega
  ·have HE:Hid (none=r):=by unfold Hid;rw[← Aa HR,List.drop_eq_nil_of_le (by simp;omega),Ag8]
   have kb:¬ (k:Int)<(lm.length:Int):=by omega
   obtain⟨z0,z1⟩:=cl2 CR;obtain⟨q0,q1⟩:=fr2 CR;simp at z0 z1;clear HR;go_wp2_with fail
   obtain rfl:=Aa HE;refine bodyPost_ret (v:=.tuple #[.agg #[.slice none 0 0,.slice none 0 0],.bool false]) (by simp[results,Tryz.results185,go_sem,z0,z1]) rfl ?_;exact⟨⟨none,0,0,none,0,0⟩,rfl,⟨TyR.nil _,TyR.nil _,by simp[Afs],by simp[Afs]⟩,(hB.setCell (by simp) _).setCell (by simp) _⟩
def Ag6 (T:List Int) (mp:Int→Option Afb) (x:Afb) (q:Int):Bool:=!(mp q).isSome || Agv T x (Afs (mp q))
def Ahh (T:List Int) (mp:Int→Option Afb) (x:Afb) (q:Int):Int:=if (mp q).isSome=false then 8 else if Ag6 T mp x q=false then 9 else 0
def Aje (T:List Int) (mp:Int→Option Afb) (len:Int) (x:Afb) (q:Int):Int:=if len≤q then 11 else if Ag6 T mp x q=false then 9 else 0
theorem H7 (b:PBd) (mp:Int→Option Afb) (v:FrV) (x:Afb) (q:Int) (w:World) (hl:b.T.length≤1000) (hT:TreeIn w b.tg b.T) (hM:MpSays b mp w) (hv:v.is x w) :
  Calls Tryz.prog 184 #[b.pval,v.val,.int .i64 q] w fun e w'=>e=.returned (.bool (Ag6 b.T mp x q))∧Below w.heap.size w w':=by
 have hMq:=fun w' h=>hM q w' h;have hFF:=fun (u:FrV) y w' (h:Below w.heap.size w w') hu=>Pw (ya:=b.ya) (yn:=b.yn) (yc:=b.yc) b.T b.tg b.tc v u x y w' hl (hT.below h) (hv.below h) hu;unfold Ag6;generalize mp q=M at *;obtain⟨fa1,fl1,fc1,fa2,fl2,fc2,tg,tc,ya,yn,yc,cl,nm,pa,pl,pc,r1,r2,lo,st,ca,cn,cc,ha,hl',hc,ma,ml,mc,la,lc,T,L⟩:=b;obtain⟨xa,xn,xc,za,zn,zc⟩:=v;simp only[PBd.pval,FrV.val]at hMq hFF ⊢;have HM:=Ac hMq;have HFF:=Ac hFF;clear hMq hFF hM hT hv;have hB0:=Ai w ((O20 (some ⟨tg,0,none⟩) T.length tc ya yn yc cl nm pa pl pc r1 r2 lo st ca cn cc ha hl' hc ma ml mc la L.length lc fa1 fl1 fc1 fa2 fl2 fc2 (some ⟨tg,0,none⟩) T.length tc ya yn yc cl nm pa pl pc r1 r2 lo st ca cn cc ha hl' hc ma ml mc la L.length lc)) (O18 xa xn xc za zn zc);have P0:=Ak w ((O20 (some ⟨tg,0,none⟩) T.length tc ya yn yc cl nm pa pl pc r1 r2 lo st ca cn cc ha hl' hc ma ml mc la L.length lc fa1 fl1 fc1 fa2 fl2 fc2 (some ⟨tg,0,none⟩) T.length tc ya yn yc cl nm pa pl pc r1 r2 lo st ca cn cc ha hl' hc ma ml mc la L.length lc)) (O18 xa xn xc za zn zc);have X0:=Ah w ((O20 (some ⟨tg,0,none⟩) T.length tc ya yn yc cl nm pa pl pc r1 r2 lo st ca cn cc ha hl' hc ma ml mc la L.length lc fa1 fl1 fc1 fa2 fl2 fc2 (some ⟨tg,0,none⟩) T.length tc ya yn yc cl nm pa pl pc r1 r2 lo st ca cn cc ha hl' hc ma ml mc la L.length lc)) (O18 xa xn xc za zn zc);cases M with
 | none =>
  go_enter Tryz.func184,Tryz.ntmps184;go_wp2_with (refine wpList_load_row (by rfl) 212 (.tmp 3) (by rfl) w.heap.size (by rfl) 212 _ (0,0) _ P0 Tryz.underlying212 (by rfl) Tryz.infoPass ?_)
  refine(Aa HM _ hB0).mono ?_;rintro e w1 ⟨u,rfl,hu,hb1⟩;obtain⟨ua,un,uc,va,vn,vc⟩:=u;have hB1:=QB hB0 hb1;go_wp2;go_ret;exact⟨rfl,hB1.alloc hB1.size _⟩
 | some z =>
  go_enter Tryz.func184,Tryz.ntmps184;go_wp2_with (refine wpList_load_row (by rfl) 212 (.tmp 3) (by rfl) w.heap.size (by rfl) 212 _ (0,0) _ P0 Tryz.underlying212 (by rfl) Tryz.infoPass ?_)
  refine(Aa HM _ hB0).mono ?_;rintro e w1 ⟨u,rfl,hu,hb1⟩;obtain⟨ua,un,uc,va,vn,vc⟩:=u;have hB1:=QB hB0 hb1;have hs1:=hB1.size;have hB2:=hB1.alloc hs1 (O18 ua un uc va vn vc);have hf:=Aa HFF ⟨ua,un,uc,va,vn,vc⟩ _ _ hB2 (hu.below (QN (O18 ua un uc va vn vc)));simp only at hf;have HF:=Ac hf;have p0:=Ab (stay hb1 P0) 0;have p1:=Ab (stay hb1 P0) 1;have x0:=Ab (stay hb1 X0) 0;have x1:=Ab (stay hb1 X0) 1;have lP:=lt_of_block (stay hb1 P0);have lX:=lt_of_block (stay hb1 X0);simp at p0 p1 x0 x1;clear hf hb1 P0 X0;go_wp2_with fail
  refine(Aa HF).mono ?_;rintro e w2 ⟨rfl,hb2⟩;go_wp2;go_ret;exact⟨by simp,QB hB2 hb2⟩
theorem Rb (b:PBd) (mp:Int→Option Afb) (v:FrV) (x:Afb) (q:Int) (w:World) (hl:b.T.length≤1000) (hT:TreeIn w b.tg b.T) (hM:MpSays b mp w) (hv:v.is x w) :
  Calls Tryz.prog 235 #[b.pval,v.val,.int .i64 q] w fun e w'=>e=.returned (.int .i64 (Ahh b.T mp x q))∧Below w.heap.size w w':=by
 have hMq:=fun w' h=>hM q w' h;have hFA:=fun w' (h:Below w.heap.size w w')=>H7 b mp v x q w' hl (hT.below h) (hM.below h) (hv.below h);unfold Ahh;generalize Ag6 b.T mp x q=FA at *;generalize mp q=M at *;obtain⟨fa1,fl1,fc1,fa2,fl2,fc2,tg,tc,ya,yn,yc,cl,nm,pa,pl,pc,r1,r2,lo,st,ca,cn,cc,ha,hl',hc,ma,ml,mc,la,lc,T,L⟩:=b;obtain⟨xa,xn,xc,za,zn,zc⟩:=v;simp only[PBd.pval,FrV.val]at hMq hFA ⊢;have HM:=Ac hMq;have HFA:=Ac hFA;clear hMq hFA hM hT hv;have hB0:=Ai w ((O20 (some ⟨tg,0,none⟩) T.length tc ya yn yc cl nm pa pl pc r1 r2 lo st ca cn cc ha hl' hc ma ml mc la L.length lc fa1 fl1 fc1 fa2 fl2 fc2 (some ⟨tg,0,none⟩) T.length tc ya yn yc cl nm pa pl pc r1 r2 lo st ca cn cc ha hl' hc ma ml mc la L.length lc)) (O18 xa xn xc za zn zc);have P0:=Ak w ((O20 (some ⟨tg,0,none⟩) T.length tc ya yn yc cl nm pa pl pc r1 r2 lo st ca cn cc ha hl' hc ma ml mc la L.length lc fa1 fl1 fc1 fa2 fl2 fc2 (some ⟨tg,0,none⟩) T.length tc ya yn yc cl nm pa pl pc r1 r2 lo st ca cn cc ha hl' hc ma ml mc la L.length lc)) (O18 xa xn xc za zn zc);have X0:=Ah w ((O20 (some ⟨tg,0,none⟩) T.length tc ya yn yc cl nm pa pl pc r1 r2 lo st ca cn cc ha hl' hc ma ml mc la L.length lc fa1 fl1 fc1 fa2 fl2 fc2 (some ⟨tg,0,none⟩) T.length tc ya yn yc cl nm pa pl pc r1 r2 lo st ca cn cc ha hl' hc ma ml mc la L.length lc)) (O18 xa xn xc za zn zc);cases M with
 | none =>
  go_enter Tryz.func235,Tryz.ntmps235;go_wp2_with (refine wpList_load_row (by rfl) 212 (.tmp 3) (by rfl) w.heap.size (by rfl) 212 _ (0,0) _ P0 Tryz.underlying212 (by rfl) Tryz.infoPass ?_)
  refine(Aa HM _ hB0).mono ?_;rintro e w1 ⟨u,rfl,hu,hb1⟩;obtain⟨ua,un,uc,va,vn,vc⟩:=u;have hB1:=QB hB0 hb1;go_wp2;go_ret;exact⟨rfl,hB1.alloc hB1.size _⟩
 | some z =>
  rw[if_neg (by simp)];cases FA
  all_goals
   go_enter Tryz.func235,Tryz.ntmps235;go_wp2_with (refine wpList_load_row (by rfl) 212 (.tmp 3) (by rfl) w.heap.size (by rfl) 212 _ (0,0) _ P0 Tryz.underlying212 (by rfl) Tryz.infoPass ?_)
   refine(Aa HM _ hB0).mono ?_;rintro e w1 ⟨u,rfl,hu,hb1⟩;obtain⟨ua,un,uc,va,vn,vc⟩:=u;have hB1:=QB hB0 hb1;have hs1:=hB1.size;have hB2:=hB1.alloc hs1 (O18 ua un uc va vn vc);have P1:=stay hb1 P0;have x0:=Ab (stay hb1 X0) 0;have x1:=Ab (stay hb1 X0) 1;have lP:=lt_of_block P1;have lX:=lt_of_block (stay hb1 X0);simp at x0 x1;have P2:=Af P1 (O18 ua un uc va vn vc);clear hb1 P0 X0;go_wp2_with (refine wpList_load_row (by rfl) 212 (.tmp 3) (by rfl) w.heap.size (by rfl) 212 _ (0,0) _ P2 Tryz.underlying212 (by rfl) Tryz.infoPass ?_)
   refine(Aa HFA _ hB2).mono ?_;rintro e w2 ⟨rfl,hb2⟩;go_wp2;go_ret;exact⟨rfl,QB hB2 hb2⟩
theorem Aam (b:PBd) (mp:Int→Option Afb) (v:FrV) (x:Afb) (q:Int) (w:World) (hl:b.T.length≤1000) (hT:TreeIn w b.tg b.T) (hM:MpSays b mp w) (hv:v.is x w) :
  Calls Tryz.prog 236 #[b.pval,v.val,.int .i64 q] w fun e w'=>e=.returned (.int .i64 (Aje b.T mp (b.cn:Int) x q))∧Below w.heap.size w w':=by
 have hFA:=fun w' (h:Below w.heap.size w w')=>H7 b mp v x q w' hl (hT.below h) (hM.below h) (hv.below h);unfold Aje;generalize Ag6 b.T mp x q=FA at *;obtain⟨fa1,fl1,fc1,fa2,fl2,fc2,tg,tc,ya,yn,yc,cl,nm,pa,pl,pc,r1,r2,lo,st,ca,cn,cc,ha,hl',hc,ma,ml,mc,la,lc,T,L⟩:=b;obtain⟨xa,xn,xc,za,zn,zc⟩:=v;simp only[PBd.pval,FrV.val]at hFA ⊢;have HFA:=Ac hFA;clear hFA hM hT hv;have hB0:=Ai w ((O20 (some ⟨tg,0,none⟩) T.length tc ya yn yc cl nm pa pl pc r1 r2 lo st ca cn cc ha hl' hc ma ml mc la L.length lc fa1 fl1 fc1 fa2 fl2 fc2 (some ⟨tg,0,none⟩) T.length tc ya yn yc cl nm pa pl pc r1 r2 lo st ca cn cc ha hl' hc ma ml mc la L.length lc)) (O18 xa xn xc za zn zc);have P0:=Ak w ((O20 (some ⟨tg,0,none⟩) T.length tc ya yn yc cl nm pa pl pc r1 r2 lo st ca cn cc ha hl' hc ma ml mc la L.length lc fa1 fl1 fc1 fa2 fl2 fc2 (some ⟨tg,0,none⟩) T.length tc ya yn yc cl nm pa pl pc r1 r2 lo st ca cn cc ha hl' hc ma ml mc la L.length lc)) (O18 xa xn xc za zn zc);by_cases hq:(cn:Int)≤q
 ·rw[if_pos hq];go_enter Tryz.func236,Tryz.ntmps236;go_wp2;go_ret;exact⟨rfl,hB0⟩
 ·rw[if_neg hq];have hq':q<(cn:Int):=by omega
  cases FA
  all_goals
   go_enter Tryz.func236,Tryz.ntmps236;go_wp2_with (refine wpList_load_row (by rfl) 212 (.tmp 3) (by rfl) w.heap.size (by rfl) 212 _ (0,0) _ P0 Tryz.underlying212 (by rfl) Tryz.infoPass ?_)
   refine(Aa HFA _ hB0).mono ?_;rintro e w2 ⟨rfl,hb2⟩;go_wp2;go_ret;exact⟨rfl,QB hB0 hb2⟩
def Ago (T:List Int) (mp:Int→Option Afb) (p:Int) (lo:List (Int × Int)):List Rd.Hnd→Int
 | []=>0
 | h::r=>if Af2 h p=false then Ago T mp p lo r else if Ahh T mp ⟨lo,[(3,h.cl)]⟩ h.target≠0 then Ahh T mp ⟨lo,[(3,h.cl)]⟩ h.target else Ago T mp p lo r
theorem Vi (b:PBd) (mp:Int→Option Afb) (hs:List Rd.Hnd) (bb:Nat) (p:Int) (v:FrV) (x:Afb) (w:World) (hl:b.T.length≤1000) (hT:TreeIn w b.tg b.T) (hM:MpSays b mp w) (hhl:b.hl=hs.length) (hh4:hs.length≤1000) (hhs:HndsAt w bb (.slice b.ha b.hl b.hc) hs) (hv:v.is x w) :
  Calls Tryz.prog 234 #[b.pval,.int .i64 p,v.val] w fun e w'=>e=.returned (.int .i64 (Ago b.T mp p x.locals hs))∧Below w.heap.size w w':=by
 have hJ:=fun u y q w' (h:Below w.heap.size w w') hu=>Rb b mp u y q w' hl (hT.below h) (hM.below h) hu;have hC:=fun c w' (h:Below w.heap.size w w')=>Mv c v x w' (hv.below h);have HHS:Hid (∀ w',Below w.heap.size w w'→HndsAt w' bb (.slice b.ha b.hl b.hc) hs):=fun w' h=>hhs.kp (Kp.of_below (e:=none) h) (by decide);generalize hr:Ago b.T mp p x.locals hs=R;have HR:Hid (Ago b.T mp p x.locals (hs.drop 0)=R):=hr;obtain⟨fa1,fl1,fc1,fa2,fl2,fc2,tg,tc,ya,yn,yc,cl,nm,pa,pl,pc,r1,r2,lo,st,ca,cn,cc,ha,hl',hc,ma,ml,mc,la,lc,T,L⟩:=b;obtain⟨xa,xn,xc,za,zn,zc⟩:=v;simp only at hhl HR;subst hhl;unfold Hid at HHS;simp only[PBd.pval,FrV.val]at hJ hC HHS ⊢;have HHS':=Ac HHS;have HJ:=Ac hJ;have HC:=Ac hC;clear hr hT hM hv hhs hJ hC HHS hl;have hB0:=Ai w (O20 (some ⟨tg,0,none⟩) T.length tc ya yn yc cl nm pa pl pc r1 r2 lo st ca cn cc ha hs.length hc ma ml mc la L.length lc fa1 fl1 fc1 fa2 fl2 fc2 (some ⟨tg,0,none⟩) T.length tc ya yn yc cl nm pa pl pc r1 r2 lo st ca cn cc ha hs.length hc ma ml mc la L.length lc) (O18 xa xn xc za zn zc);have P0:=Ak w (O20 (some ⟨tg,0,none⟩) T.length tc ya yn yc cl nm pa pl pc r1 r2 lo st ca cn cc ha hs.length hc ma ml mc la L.length lc fa1 fl1 fc1 fa2 fl2 fc2 (some ⟨tg,0,none⟩) T.length tc ya yn yc cl nm pa pl pc r1 r2 lo st ca cn cc ha hs.length hc ma ml mc la L.length lc) (O18 xa xn xc za zn zc);have X0:=Ah w (O20 (some ⟨tg,0,none⟩) T.length tc ya yn yc cl nm pa pl pc r1 r2 lo st ca cn cc ha hs.length hc ma ml mc la L.length lc fa1 fl1 fc1 fa2 fl2 fc2 (some ⟨tg,0,none⟩) T.length tc ya yn yc cl nm pa pl pc r1 r2 lo st ca cn cc ha hs.length hc ma ml mc la L.length lc) (O18 xa xn xc za zn zc);go_enter Tryz.func234,Tryz.ntmps234;go_wp2
 go_loopw [15] (fun s wr=>∃ q:Nat,q≤hs.length∧s=.int .i64 (q:Int)∧Hid (Ago T mp p x.locals (hs.drop q)=R)∧Below w.heap.size w wr∧wr.heap[w.heap.size]?=some (O20 (some ⟨tg,0,none⟩) T.length tc ya yn yc cl nm pa pl pc r1 r2 lo st ca cn cc ha hs.length hc ma ml mc la L.length lc fa1 fl1 fc1 fa2 fl2 fc2 (some ⟨tg,0,none⟩) T.length tc ya yn yc cl nm pa pl pc r1 r2 lo st ca cn cc ha hs.length hc ma ml mc la L.length lc)∧wr.heap[w.heap.size+1]?=some (O18 xa xn xc za zn zc))
  (fun s _=>hs.length-(intOf s).toNat)
 case atStart=>exact⟨0,by omega,rfl,HR,hB0,P0,X0⟩
 case round =>
  clear HR hB0 P0 X0;obtain⟨q,hq,rfl,HR,hB,CP,CX⟩:=hrel;have hBs:=hB.size;by_cases hkn:q<hs.length
  ·obtain⟨g,hg,hglt,_,hcell⟩:=Ao (Aa HHS' _ hB) (by omega);have y0:=(hcell _ (As hs q hkn 0 (by omega)).2).trans (As hs q hkn 0 (by omega)).1;have y1:=(hcell _ (As hs q hkn 1 (by omega)).2).trans (As hs q hkn 1 (by omega)).1;have y2:=(hcell _ (As hs q hkn 2 (by omega)).2).trans (As hs q hkn 2 (by omega)).1;have y3:=(hcell _ (As hs q hkn 3 (by omega)).2).trans (As hs q hkn 3 (by omega)).1;have hd:hs.drop q=hs[q]::hs.drop (q+1):=List.drop_eq_getElem_cons hkn;have hr:=Aa HR;rw[hd,Ago]at hr;generalize hs[q]=hh at *;obtain⟨h1,h2,h3,h4⟩:=hh;simp at y0 y1 y2 y3;simp only at hr;subst hg;have kb:(q:Int)<(hs.length:Int):=by omega
   have hBH:=hB.alloc hBs (O13 h1 h2 h3 h4);have CP1:=Af CP (O13 h1 h2 h3 h4);have CX1:=Af CX (O13 h1 h2 h3 h4);have CH1:=Ad wr (O13 h1 h2 h3 h4);have hco:=Ir ⟨h1,h2,h3,h4⟩ p (wr.alloc (O13 h1 h2 h3 h4));simp only at hco;generalize Af2 ⟨h1,h2,h3,h4⟩ p=CV at *;have HCO:=Ac hco;clear hco hd hcell HR;cases CV with
   | false =>
    rw[if_pos rfl]at hr;have HG:Hid (Ago T mp p x.locals (hs.drop (q+1))=R):=hr;clear hr;go_wp2_with fail
    refine(Aa HCO).mono ?_;rintro e w1 ⟨rfl,hb1⟩;have hB1:=QB hBH hb1;go_wp2
    go_roundw
    case rel=>exact⟨q+1,by omega,by go_num,HG,hB1,stay hb1 CP1,stay hb1 CX1⟩
    case measure=>simp[intOf];omega
   | true =>
    rw[if_neg (by simp)]at hr;have HRR:=Ac hr;clear hr;go_wp2_with fail
    refine(Aa HCO).mono ?_;rintro e w1 ⟨rfl,hb1⟩;have hB1:=QB hBH hb1;have CP2:=stay hb1 CP1;have CX2:=stay hb1 CX1;have CH2:=stay hb1 CH1;clear hb1 CP1 CX1 CH1 CP CX hBH hB hBs;obtain⟨x0,x1⟩:=cl2 CX2;have z3:=Ab CH2 3;simp at x0 x1 z3;go_wp2_with fail
    refine(Aa HC h4 _ hB1).mono ?_;rintro e w2 ⟨u,rfl,hu,hb2⟩;obtain⟨ua,un,uc,va,vn,vc⟩:=u;have hB2:=QB hB1 hb2;have hs2:=hB2.size;have CP3:=Af (stay hb2 CP2) (O18 ua un uc va vn vc);have CX3:=Af (stay hb2 CX2) (O18 ua un uc va vn vc);have CH3:=stay hb2 CH2;have hBY:=hB2.alloc hs2 (O18 ua un uc va vn vc);have huY:=hu.below (QN (O18 ua un uc va vn vc));have hj:=Aa HJ ⟨ua,un,uc,va,vn,vc⟩ _ h3 _ hBY huY;simp only at hj;have hr:=Aa HRR;generalize Ahh T mp ⟨x.locals,[(3,h4)]⟩ h3=JV at *;have HJV:=Ac hj;have z2:=Ab CH3 2;have lH:=lt_of_block CH3;simp at z2;clear hb2 CP2 CX2 CH2 CH3 x0 x1 z3 hu hj HRR hB1;by_cases hj0:JV=0
    ·rw[if_neg (by simpa using hj0)]at hr;have HG:Hid (Ago T mp p x.locals (hs.drop (q+1))=R):=hr;subst hj0;clear hr;go_wp2_with (refine wpList_load_row (by rfl) 212 (.tmp 3) (by rfl) w.heap.size (by rfl) 212 _ (0,0) _ CP3 Tryz.underlying212 (by rfl) Tryz.infoPass ?_)
     refine(Aa HJV).mono ?_;rintro e w3 ⟨rfl,hb3⟩;have hB3:=QB hBY hb3;go_wp2
     go_roundw
     case rel=>exact⟨q+1,by omega,by go_num,HG,hB3,stay hb3 CP3,stay hb3 CX3⟩
     case measure=>simp[intOf];omega
    ·rw[if_pos hj0]at hr;have HE:=Ac hr;have hj':(JV != 0)=true:=by simpa using hj0
     clear hr hj0;go_wp2_with (refine wpList_load_row (by rfl) 212 (.tmp 3) (by rfl) w.heap.size (by rfl) 212 _ (0,0) _ CP3 Tryz.underlying212 (by rfl) Tryz.infoPass ?_)
     refine(Aa HJV).mono ?_;rintro e w3 ⟨rfl,hb3⟩;have hB3:=QB hBY hb3;go_wp2;go_ret;exact⟨by rw[← Aa HE];rfl,hB3⟩
  ·have HE:Hid ((0:Int)=R):=by unfold Hid;rw[← Aa HR,List.drop_eq_nil_of_le (by omega)];rfl
   have kb:¬ (q:Int)<(hs.length:Int):=by omega
   clear HR;go_wp2;go_ret;exact⟨by rw[← Aa HE];rfl,hB⟩
def Ajd (T:List Int) (mp:Int→Option Afb) (H:Int) (B:Option Afb) (op n nxt len:Int):Int :=
 if H≠0 then H else if B.isSome=false then 10 else if Afx op=true∧Ahh T mp (Afs B) n≠0 then Ahh T mp (Afs B) n
 else if Af5 op=false then 0 else Aje T mp len (Afs B) nxt
theorem W7 (b:PBd) (mp:Int→Option Afb) (p:Nat) (op n H:Int) (RB:Option Afb) (v:FrV) (w:World) (hl:b.T.length≤1000) (hT:TreeIn w b.tg b.T) (hM:MpSays b mp w) (hp:p≤100000)
  (hH:∀ w',Below w.heap.size w w'→Calls Tryz.prog 234 #[b.pval,.int .i64 (p:Int),v.val] w' fun e w''=>e=.returned (.int .i64 H)∧Below w'.heap.size w' w'')
  (hBh:∀ w',Below w.heap.size w w'→Calls Tryz.prog 221 #[b.val,.agg #[.int .i64 (p:Int),.int .i64 op,.int .i64 n],v.val] w' fun e w''=>∃ u:FrV,e=.returned (.tuple #[u.val,.bool RB.isSome])∧(∀ y,RB=some y→u.is y w'')∧Below w'.heap.size w' w'') :
  Calls Tryz.prog 186 #[b.pval,.agg #[.int .i64 (p:Int),.int .i64 op,.int .i64 n],v.val] w fun e w'=>∃ u:FrV,
   e=.returned (.tuple #[u.val,.int .i64 (Ajd b.T mp H RB op n ((p+Cd.wd op:Nat):Int) (b.cn:Int))])∧(Ajd b.T mp H RB op n ((p+Cd.wd op:Nat):Int) (b.cn:Int)=0→∀ y,RB=some y→u.is y w')∧Below w.heap.size w w':=by
 have hJ:=fun u y q w' (h:Below w.heap.size w w') hu=>Rb b mp u y q w' hl (hT.below h) (hM.below h) hu;have hGo:=fun u y q w' (h:Below w.heap.size w w') hu=>Aam b mp u y q w' hl (hT.below h) (hM.below h) hu;have hNx:=fun w'=>Hq p op n w' hp;have hTN:=fun w'=>Lp op w';have hGN:=fun w'=>Iw op w';generalize hA:Ajd b.T mp H RB op n ((p+Cd.wd op:Nat):Int) (b.cn:Int)=A;unfold Ajd at hA;generalize p+Cd.wd op=nxt at *;obtain⟨fa1,fl1,fc1,fa2,fl2,fc2,tg,tc,ya,yn,yc,cl,nm,pa,pl,pc,r1,r2,lo,st,ca,cn,cc,ha,hl',hc,ma,ml,mc,la,lc,T,L⟩:=b;obtain⟨xa,xn,xc,za,zn,zc⟩:=v;simp only[PBd.pval,PBd.val,FrV.val]at hJ hGo hH hBh hA ⊢;generalize Afx op=J at *;generalize Af5 op=G at *;have HH:=Ac hH;have HBH:=Ac hBh;have HJ:=Ac hJ;have HGO:=Ac hGo;have HNX:=Ac hNx;have HTN:=Ac hTN;have HGN:=Ac hGN;clear hH hBh hJ hGo hNx hTN hGN hT hM hl;have hB0:=Cq w (O20 (some ⟨tg,0,none⟩) T.length tc ya yn yc cl nm pa pl pc r1 r2 lo st ca cn cc ha hl' hc ma ml mc la L.length lc fa1 fl1 fc1 fa2 fl2 fc2 (some ⟨tg,0,none⟩) T.length tc ya yn yc cl nm pa pl pc r1 r2 lo st ca cn cc ha hl' hc ma ml mc la L.length lc) (O9 (p:Int) op n) (O18 xa xn xc za zn zc) (O18 none 0 0 none 0 0);obtain⟨P0,I0,X0,R0⟩:=Bp w (O20 (some ⟨tg,0,none⟩) T.length tc ya yn yc cl nm pa pl pc r1 r2 lo st ca cn cc ha hl' hc ma ml mc la L.length lc fa1 fl1 fc1 fa2 fl2 fc2 (some ⟨tg,0,none⟩) T.length tc ya yn yc cl nm pa pl pc r1 r2 lo st ca cn cc ha hl' hc ma ml mc la L.length lc) (O9 (p:Int) op n) (O18 xa xn xc za zn zc) (O18 none 0 0 none 0 0);have hs0:=hB0.size;by_cases h0:H=0
 ·subst h0;rw[if_neg (by simp)]at hA;cases RB with
  | none =>
   rw[if_pos (by simp)]at hA;have HA:=Ac hA;clear hA;go_enter Tryz.func186,Tryz.ntmps186;go_wp2_with (refine wpList_load_row (by rfl) 212 (.tmp 3) (by rfl) w.heap.size (by rfl) 212 _ (0,0) _ P0 Tryz.underlying212 (by rfl) Tryz.infoPass ?_)
   refine(Aa HH _ hB0).mono ?_;rintro e w1 ⟨rfl,hb1⟩;have hB1:=hB0.trans (hb1.mono hs0);have hs1:=hB1.size;have P1:=stay hb1 P0;have I1:=stay hb1 I0;have X1:=stay hb1 X0;have R1:=stay hb1 R0;clear hb1 P0 I0 X0 R0;obtain⟨m0,m1,m2,m3,m4,m5,m6,m7,m8,m9,m10,m11,m12,m13,m14,m15,m16,m17,m18,m19,m20,m21,m22,m23,m24,m25,m26,m27⟩:=Abg P1;simp at m0 m1 m2 m3 m4 m5 m6 m7 m8 m9 m10 m11 m12 m13 m14 m15 m16 m17 m18 m19 m20 m21 m22 m23 m24 m25 m26 m27;obtain⟨i0,i1,i2⟩:=cl3 I1;simp at i0 i1 i2;obtain⟨x0,x1⟩:=cl2 X1;simp at x0 x1;go_wp2_with fail
   refine(Aa HBH _ hB1).mono ?_;rintro e w2 ⟨u,rfl,-,hb2⟩;obtain⟨ua,un,uc,va,vn,vc⟩:=u;have hB2:=hB1.trans (hb2.mono hs1);have hs2:=hB2.size;have R2:=stay hb2 R1;obtain⟨z0,z1⟩:=cl2 R2;obtain⟨q0,q1⟩:=fr2 R2;have lr:=lt_of_block R2;simp at z0 z1;clear m0 m1 m2 m3 m4 m5 m6 m7 m8 m9 m10 m11 m12 m13 m14 m15 m16 m17 m18 m19 m20 m21 m22 m23 m24 m25 m26 m27 i0 i1 i2 x0 x1 hb2;have hA10:=Aa HA;subst hA10;go_wp2_with fail
   refine bodyPost_ret (v:=.tuple #[.agg #[.slice none 0 0,.slice none 0 0],.int .i64 10]) (by simp[results,Tryz.results186,go_sem,z0,z1,lr]) rfl ?_;exact⟨⟨none,0,0,none,0,0⟩,rfl,fun h=>(by simp at h),by repeat (first | refine Below.setCell ?_ (by simp;omega) _ | refine Below.alloc ?_ (by first | omega | (simp;omega)) _ | exact hB2)⟩
  | some y =>
   rw[if_neg (by simp),show Afs (some y)=y from rfl]at hA;have HA:=Ac hA;clear hA;go_enter Tryz.func186,Tryz.ntmps186;go_wp2_with (refine wpList_load_row (by rfl) 212 (.tmp 3) (by rfl) w.heap.size (by rfl) 212 _ (0,0) _ P0 Tryz.underlying212 (by rfl) Tryz.infoPass ?_)
   refine(Aa HH _ hB0).mono ?_;rintro e w1 ⟨rfl,hb1⟩;have hB1:=hB0.trans (hb1.mono hs0);have hs1:=hB1.size;have P1:=stay hb1 P0;have I1:=stay hb1 I0;have X1:=stay hb1 X0;have R1:=stay hb1 R0;clear hb1 P0 I0 X0 R0;obtain⟨m0,m1,m2,m3,m4,m5,m6,m7,m8,m9,m10,m11,m12,m13,m14,m15,m16,m17,m18,m19,m20,m21,m22,m23,m24,m25,m26,m27⟩:=Abg P1;simp at m0 m1 m2 m3 m4 m5 m6 m7 m8 m9 m10 m11 m12 m13 m14 m15 m16 m17 m18 m19 m20 m21 m22 m23 m24 m25 m26 m27;obtain⟨i0,i1,i2⟩:=cl3 I1;simp at i0 i1 i2;obtain⟨x0,x1⟩:=cl2 X1;simp at x0 x1;go_wp2_with fail
   refine(Aa HBH _ hB1).mono ?_;rintro e w2 ⟨u,rfl,hu,hb2⟩;have hu:=hu y rfl;obtain⟨ua,un,uc,va,vn,vc⟩:=u;have hB2:=hB1.trans (hb2.mono hs1);have hs2:=hB2.size;have P2:=Af (stay hb2 P1) (O18 ua un uc va vn vc);have I2:=Af (stay hb2 I1) (O18 ua un uc va vn vc);have R2:=Af (stay hb2 R1) (O18 ua un uc va vn vc);have Y2:=Ad w2 (O18 ua un uc va vn vc);have hB3:=hB2.alloc hs2 (O18 ua un uc va vn vc);have hs3:=hB3.size;have hu3:=hu.below (QN (O18 ua un uc va vn vc));have i1':=Ab (stay hb2 I1) 1;have lI:=lt_of_block (stay hb2 I1);have lR:=lt_of_block (stay hb2 R1);simp at i1';clear m0 m1 m2 m3 m4 m5 m6 m7 m8 m9 m10 m11 m12 m13 m14 m15 m16 m17 m18 m19 m20 m21 m22 m23 m24 m25 m26 m27 i0 i1 i2 x0 x1 hb2 P1 I1 X1 R1 hu;go_wp2_with fail
   refine(Aa HTN _).mono ?_;rintro e w3 ⟨rfl,rfl⟩
   go_upto_if 34 with fail
   go_cut [8] from 12 (fun _ wx=>Below w.heap.size w wx∧wx.heap[w.heap.size]?=some (O20 (some ⟨tg,0,none⟩) T.length tc ya yn yc cl nm pa pl pc r1 r2 lo st ca cn cc ha hl' hc ma ml mc la L.length lc fa1 fl1 fc1 fa2 fl2 fc2 (some ⟨tg,0,none⟩) T.length tc ya yn yc cl nm pa pl pc r1 r2 lo st ca cn cc ha hl' hc ma ml mc la L.length lc)∧wx.heap[w.heap.size+1]?=some (O9 (p:Int) op n)∧wx.heap[w.heap.size+1+1+1]?=some (O18 none 0 0 none 0 0)∧wx.heap[w2.heap.size]?=some (O18 ua un uc va vn vc) ∧
    FrV.is ⟨ua,un,uc,va,vn,vc⟩ y wx∧Hid ((if G=false then 0 else Aje T mp (cn:Int) y (nxt:Int))=A))
   case first =>
    have hr:=Aa HA;cases J with
    | false =>
     rw[if_neg (by simp)]at hr;have HA2:=Ac hr;clear hr HA;go_wp2
     go_meet
     case rel=>exact⟨hB3,P2,I2,R2,Y2,hu3,HA2⟩
    | true =>
     have hj:=Aa HJ ⟨ua,un,uc,va,vn,vc⟩ y n _ hB3 hu3;simp only at hj;generalize Ahh T mp y n=JV at *;have HJV:=Ac hj;clear hj;have i2':=Ab I2 2;simp at i2';by_cases hj0:JV=0
     ·rw[if_neg (by simp[hj0])]at hr;have HA2:=Ac hr;subst hj0;clear hr HA;go_wp2_with (refine wpList_load_row (by rfl) 212 (.tmp 3) (by rfl) w.heap.size (by rfl) 212 _ (0,0) _ P2 Tryz.underlying212 (by rfl) Tryz.infoPass ?_)
      refine(Aa HJV).mono ?_;rintro e w4 ⟨rfl,hb4⟩;have hB4:=hB3.trans (hb4.mono hs3);go_wp2
      go_meet
      case rel=>exact⟨hB4,stay hb4 P2,stay hb4 I2,stay hb4 R2,stay hb4 Y2,hu3.below hb4,HA2⟩
     ·rw[if_pos ⟨rfl,hj0⟩]at hr;have hj':(JV != 0)=true:=by simpa using hj0
      have HE:=Ac hr;have hA0:A≠0:=by rw[← hr];exact hj0
      clear hr HA hj0;go_wp2_with (refine wpList_load_row (by rfl) 212 (.tmp 3) (by rfl) w.heap.size (by rfl) 212 _ (0,0) _ P2 Tryz.underlying212 (by rfl) Tryz.infoPass ?_)
      refine(Aa HJV).mono ?_;rintro e w4 ⟨rfl,hb4⟩;have hB4:=hB3.trans (hb4.mono hs3);have hs4:=hB4.size;have R4:=stay hb4 R2;obtain⟨z0,z1⟩:=cl2 R4;obtain⟨q0,q1⟩:=fr2 R4;have lr:=lt_of_block R4;simp at z0 z1;go_wp2_with fail
      refine bodyPost_ret (v:=.tuple #[.agg #[.slice none 0 0,.slice none 0 0],.int .i64 JV]) (by simp[results,Tryz.results186,go_sem,z0,z1]) rfl ?_;exact⟨⟨none,0,0,none,0,0⟩,by rw[← Aa HE],fun h=>absurd h hA0,by repeat (first | refine Below.setCell ?_ (by simp;omega) _ | exact hB4)⟩
   case rest =>
    obtain⟨hB5,P5,I5,R5,Y5,hy5,HE⟩:=hcut;have hs5:=hB5.size;clear HA P2 I2 R2 Y2 hu3 hB3 hs3 HTN HJ HH HBH hB2 hs2 i1' lI;have lY:=lt_of_block Y5;have hr:=Aa HE;have i1':=Ab I5 1;simp at i1';cases G with
    | false =>
     rw[if_pos rfl]at hr;obtain⟨y0,y1⟩:=cl2 Y5;simp at y0 y1;obtain rfl:=hr;obtain⟨z0,z1⟩:=cl2 R5;obtain⟨q0,q1⟩:=fr2 R5;have lr:=lt_of_block R5;simp at z0 z1;clear HE;go_wp2_with fail
     refine(Aa HGN _).mono ?_;rintro e w6 ⟨rfl,rfl⟩;go_wp2_with fail
     refine bodyPost_ret (v:=.tuple #[.agg #[.slice ua un uc,.slice va vn vc],.int .i64 0]) (by simp[results,Tryz.results186,go_sem,z0,z1]) rfl ?_;exact⟨⟨ua,un,uc,va,vn,vc⟩,rfl,hy5.set2 R5 _ _,by repeat (first | refine Below.setCell ?_ (by simp;omega) _ | exact hB5)⟩
    | true =>
     rw[if_neg (by simp)]at hr;obtain⟨i0,i1,i2⟩:=cl3 I5;simp at i0 i1 i2;go_wp2_with fail
     refine(Aa HGN _).mono ?_;rintro e w6 ⟨rfl,rfl⟩;go_wp2_with fail
     refine(Aa HNX _).mono ?_;rintro e w7 ⟨rfl,hb7⟩;have hB7:=hB5.trans (hb7.mono hs5);have hs7:=hB7.size;have P7:=stay hb7 P5;have R7:=stay hb7 R5;have Y7:=stay hb7 Y5;have hy7:=hy5.below hb7;clear hb7 P5 I5 R5 Y5 hy5 i0 i1 i2 HE HGN HNX i1';have hg:=Aa HGO ⟨ua,un,uc,va,vn,vc⟩ y (nxt:Int) _ hB7 hy7;simp only at hg;generalize Aje T mp (cn:Int) y (nxt:Int)=GV at *;have HGV:=Ac hg;obtain⟨y0,y1⟩:=cl2 Y7;simp at y0 y1;clear hg HGO;obtain rfl:=hr;by_cases hg0:GV=0
     ·subst hg0;go_wp2_with (refine wpList_load_row (by rfl) 212 (.tmp 3) (by rfl) w.heap.size (by rfl) 212 _ (0,0) _ P7 Tryz.underlying212 (by rfl) Tryz.infoPass ?_)
      refine(Aa HGV).mono ?_;rintro e w8 ⟨rfl,hb8⟩;have hB8:=hB7.trans (hb8.mono hs7);have hs8:=hB8.size;have R8:=stay hb8 R7;have Y8:=stay hb8 Y7;have hy8:=hy7.below hb8;have y0':=Ab Y8 0;have y1':=Ab Y8 1;simp at y0' y1';obtain⟨z0,z1⟩:=cl2 R8;obtain⟨q0,q1⟩:=fr2 R8;have lr:=lt_of_block R8;simp at z0 z1;go_wp2_with fail
      refine bodyPost_ret (v:=.tuple #[.agg #[.slice ua un uc,.slice va vn vc],.int .i64 0]) (by simp[results,Tryz.results186,go_sem,z0,z1]) rfl ?_;exact⟨⟨ua,un,uc,va,vn,vc⟩,rfl,hy8.set2 R8 _ _,by repeat (first | refine Below.setCell ?_ (by simp;omega) _ | exact hB8)⟩
     ·have hg':(GV != 0)=true:=by simpa using hg0
      have HG0:=Ac hg0;clear hg0;go_wp2_with (refine wpList_load_row (by rfl) 212 (.tmp 3) (by rfl) w.heap.size (by rfl) 212 _ (0,0) _ P7 Tryz.underlying212 (by rfl) Tryz.infoPass ?_)
      refine(Aa HGV).mono ?_;rintro e w8 ⟨rfl,hb8⟩;have hB8:=hB7.trans (hb8.mono hs7);have hs8:=hB8.size;have R8:=stay hb8 R7;obtain⟨z0,z1⟩:=cl2 R8;obtain⟨q0,q1⟩:=fr2 R8;have lr:=lt_of_block R8;simp at z0 z1;go_wp2_with fail
      refine bodyPost_ret (v:=.tuple #[.agg #[.slice none 0 0,.slice none 0 0],.int .i64 GV]) (by simp[results,Tryz.results186,go_sem,z0,z1]) rfl ?_;exact⟨⟨none,0,0,none,0,0⟩,rfl,fun h=>absurd h (Aa HG0),by repeat (first | refine Below.setCell ?_ (by simp;omega) _ | exact hB8)⟩
 ·rw[if_pos h0]at hA;have HA:=Ac hA;have h0':(H != 0)=true:=by simpa using h0
  have hA0:A≠0:=by rw[← hA];exact h0
  clear hA h0;go_enter Tryz.func186,Tryz.ntmps186;go_wp2_with (refine wpList_load_row (by rfl) 212 (.tmp 3) (by rfl) w.heap.size (by rfl) 212 _ (0,0) _ P0 Tryz.underlying212 (by rfl) Tryz.infoPass ?_)
  refine(Aa HH _ hB0).mono ?_;rintro e w1 ⟨rfl,hb1⟩;have hB1:=hB0.trans (hb1.mono hs0);have hs1:=hB1.size;have R2:=stay hb1 R0;obtain⟨z0,z1⟩:=cl2 R2;obtain⟨q0,q1⟩:=fr2 R2;have lr:=lt_of_block R2;simp at z0 z1;go_wp2_with fail
  refine bodyPost_ret (v:=.tuple #[.agg #[.slice none 0 0,.slice none 0 0],.int .i64 H]) (by simp[results,Tryz.results186,go_sem,z0,z1]) rfl ?_;exact⟨⟨none,0,0,none,0,0⟩,by rw[← Aa HA],fun h=>absurd h hA0,by repeat (first | refine Below.setCell ?_ (by simp;omega) _ | exact hB1)⟩
def Ail (mp:Int→Option Afb) (lk:Cd.Ins→Afb→Int) (bh:Cd.Ins→Afb→Option Afb):List Cd.Ins→Option Afb→Int × Int
 | [],_=>(0,0)
 | i::r,o=>match (mp i.place).or o with
  | none=>Ail mp lk bh r none
  | some x=>if lk i x≠0 then (lk i x,i.place) else Ail mp lk bh r (if Af5 i.op=true then bh i x else none)
def Aja (T:List Int) (mp:Int→Option Afb) (lk:Cd.Ins→Afb→Int) (bh:Cd.Ins→Afb→Option Afb) (L:List Cd.Ins) (x0:Afb):Int × Int :=
 if Ag6 T mp x0 0=false then (9,0) else Ail mp lk bh L (some x0)
theorem Xp (b:PBd) (mp:Int→Option Afb) (lk:Cd.Ins→Afb→Int) (bh:Cd.Ins→Afb→Option Afb) (x0:Afb) (P:Afb→Prop) (bb:Nat) (w:World) (hl:b.T.length≤1000) (hT:TreeIn w b.tg b.T) (hM:MpSays b mp w) (hLl:b.L.length≤100000) (hIn:InsAt w bb (.slice b.la b.L.length b.lc) b.L)
  (hSt:∀ w',Below w.heap.size w w'→Calls Tryz.prog 110 #[.agg #[.int .i64 b.cl,.int .i64 b.nm,.slice b.pa b.pl b.pc,.int .i64 b.r1,.int .i64 b.r2,.int .i64 b.lo,.int .i64 b.st,.slice b.ca b.cn b.cc,.slice b.ha b.hl b.hc,.slice b.ma b.ml b.mc]] w' fun e w''=>∃ u:FrV,e=.returned u.val∧u.is x0 w''∧Below w'.heap.size w' w'')
  (hLk:∀ i∈b.L,∀ (v:FrV) (x:Afb) w',Below w.heap.size w w'→v.is x w'→P x→Calls Tryz.prog 186 #[b.pval,.agg #[.int .i64 i.place,.int .i64 i.op,.int .i64 i.n],v.val] w' fun e w''=>∃ u:FrV,e=.returned (.tuple #[u.val,.int .i64 (lk i x)])∧(lk i x=0→∃ y,bh i x=some y∧u.is y w''∧P y)∧Below w'.heap.size w' w'')
  (hP0:P x0) (hPm:∀ q z,mp q=some z→P z) :
  Calls Tryz.prog 129 #[b.pval] w fun e w'=>e=.returned (.agg #[.int .i64 (Aja b.T mp lk bh b.L x0).1,.int .i64 0,.int .i64 (Aja b.T mp lk bh b.L x0).2])∧Below w.heap.size w w':=by
 have hFA:=fun v x w' (h:Below w.heap.size w w') hv=>H7 b mp v x 0 w' hl (hT.below h) (hM.below h) hv;have hMq:=fun q w' h=>hM q w' h;have HIN:Hid (∀ w',Below w.heap.size w w'→InsAt w' bb (.slice b.la b.L.length b.lc) b.L):=fun w' h=>hIn.kp (Kp.of_below (e:=none) h) (by decide);generalize hR:Aja b.T mp lk bh b.L x0=R;unfold Aja at hR;generalize hL:b.L=LL at *;obtain⟨fa1,fl1,fc1,fa2,fl2,fc2,tg,tc,ya,yn,yc,cl,nm,pa,pl,pc,r1,r2,lo,st,ca,cn,cc,ha,hl',hc,ma,ml,mc,la,lc,T,L⟩:=b;simp only at hL;subst hL;unfold Hid at HIN;simp only[PBd.pval,FrV.val]at hFA hMq hSt hLk HIN hR ⊢;have HIN':=Ac HIN;have HFA:=Ac hFA;have HMQ:=Ac hMq;have HST:=Ac hSt;have HLK:=Ac hLk;have HPM:=Ac hPm;have HR:=Ac hR;clear hFA hMq hSt hLk hPm hR hT hM hIn HIN hl;have hB0:=Ai w (O20 (some ⟨tg,0,none⟩) T.length tc ya yn yc cl nm pa pl pc r1 r2 lo st ca cn cc ha hl' hc ma ml mc la L.length lc fa1 fl1 fc1 fa2 fl2 fc2 (some ⟨tg,0,none⟩) T.length tc ya yn yc cl nm pa pl pc r1 r2 lo st ca cn cc ha hl' hc ma ml mc la L.length lc) (O8 0 0 0);have P0:=Ak w (O20 (some ⟨tg,0,none⟩) T.length tc ya yn yc cl nm pa pl pc r1 r2 lo st ca cn cc ha hl' hc ma ml mc la L.length lc fa1 fl1 fc1 fa2 fl2 fc2 (some ⟨tg,0,none⟩) T.length tc ya yn yc cl nm pa pl pc r1 r2 lo st ca cn cc ha hl' hc ma ml mc la L.length lc) (O8 0 0 0);have Z0:=Ah w (O20 (some ⟨tg,0,none⟩) T.length tc ya yn yc cl nm pa pl pc r1 r2 lo st ca cn cc ha hl' hc ma ml mc la L.length lc fa1 fl1 fc1 fa2 fl2 fc2 (some ⟨tg,0,none⟩) T.length tc ya yn yc cl nm pa pl pc r1 r2 lo st ca cn cc ha hl' hc ma ml mc la L.length lc) (O8 0 0 0);go_enter Tryz.func129,Tryz.ntmps129
 go_upto_region 1 with fail
 generalize hW:(w.alloc (O20 (some ⟨tg,0,none⟩) T.length tc ya yn yc cl nm pa pl pc r1 r2 lo st ca cn cc ha hl' hc ma ml mc la L.length lc fa1 fl1 fc1 fa2 fl2 fc2 (some ⟨tg,0,none⟩) T.length tc ya yn yc cl nm pa pl pc r1 r2 lo st ca cn cc ha hl' hc ma ml mc la L.length lc)).alloc (O8 0 0 0)=W0 at *;clear hW;obtain⟨m0,m1,m2,m3,m4,m5,m6,m7,m8,m9,m10,m11,m12,m13,m14,m15,m16,m17,m18,m19,m20,m21,m22,m23,m24,m25,m26,m27⟩:=Abg P0;simp at m0 m1 m2 m3 m4 m5 m6 m7 m8 m9 m10 m11 m12 m13 m14 m15 m16 m17 m18 m19 m20 m21 m22 m23 m24 m25 m26 m27;go_wp2_with fail
 refine(Aa HST _ hB0).mono ?_;rintro e w1 ⟨u,rfl,hu,hb1⟩;obtain⟨ua,un,uc,va,vn,vc⟩:=u;have hB1:=QB hB0 hb1;have hs1:=hB1.size;have P1:=Af (stay hb1 P0) (O18 ua un uc va vn vc);have Z1:=Af (stay hb1 Z0) (O18 ua un uc va vn vc);have Y1:=Ad w1 (O18 ua un uc va vn vc);have lZ1:=lt_of_block (stay hb1 Z0);have hB2:=hB1.alloc hs1 (O18 ua un uc va vn vc);have hs2:=hB2.size;have hu2:=hu.below (QN (O18 ua un uc va vn vc));clear hb1 hu P0 Z0 m0 m1 m2 m3 m4 m5 m6 m7 m8 m9 m10 m11 m12 m13 m14 m15 m16 m17 m18 m19 m20 m21 m22 m23 m24 m25 m26 m27;have hfa:=Aa HFA ⟨ua,un,uc,va,vn,vc⟩ x0 _ hB2 hu2;simp only at hfa;have hr:=Aa HR;generalize Ag6 T mp x0 0=FA at *;have HFB:=Ac hfa;clear hfa HFA HR;cases FA with
 | false =>
  rw[if_pos rfl]at hr;obtain rfl:=hr;go_wp2_with (refine wpList_load_row (by rfl) 212 (.tmp 1) (by rfl) w.heap.size (by rfl) 212 _ (0,0) _ P1 Tryz.underlying212 (by rfl) Tryz.infoPass ?_)
  refine(Aa HFB).mono ?_;rintro e w3 ⟨rfl,hb3⟩;have hB3:=hB2.trans (hb3.mono hs2);have Z3:=stay hb3 Z1;obtain⟨z0,z1,z2⟩:=cl3 Z3;simp at z0 z1 z2;obtain⟨q0,q1,q2⟩:=fr3 Z3;have lr:=lt_of_block Z3;go_wp2_with fail
  refine bodyPost_ret (v:=.agg #[.int .i64 9,.int .i64 0,.int .i64 0]) (by simp[results,Tryz.results129,go_sem,z0,z1,z2]) rfl ?_;exact⟨rfl,by repeat (first | refine Below.setCell ?_ (by simp) _ | exact hB3)⟩
 | true =>
  rw[if_neg (by simp)]at hr;have HA:Hid (Ail mp lk bh (L.drop 0) (some x0)=R):=hr;clear hr;go_wp2_with (refine wpList_load_row (by rfl) 212 (.tmp 1) (by rfl) w.heap.size (by rfl) 212 _ (0,0) _ P1 Tryz.underlying212 (by rfl) Tryz.infoPass ?_)
  refine(Aa HFB).mono ?_;rintro e w3 ⟨rfl,hb3⟩;have hB3:=hB2.trans (hb3.mono hs2);have P3:=stay hb3 P1;have Z3:=stay hb3 Z1;have Y3:=stay hb3 Y1;have hu3:=hu2.below hb3;have m12:=Ab P3 12;simp at m12;clear hb3 P1 Z1 Y1 hu2 hB2 HFB;go_wp2
  go_loopw [4,22] (fun s4 s22 wr=>∃ (q:Nat) (o:Option Afb) (u:FrV),q≤L.length∧s4=.bool o.isSome∧s22=.int .i64 (q:Int)∧Hid (Ail mp lk bh (L.drop q) o=R) ∧
    wr.heap[w1.heap.size]?=some (O18 u.la u.ln u.lc u.sa u.sn u.sc)∧(∀ x,o=some x→u.is x wr∧P x) ∧
    Below w.heap.size w wr∧wr.heap[w.heap.size]?=some (O20 (some ⟨tg,0,none⟩) T.length tc ya yn yc cl nm pa pl pc r1 r2 lo st ca cn cc ha hl' hc ma ml mc la L.length lc fa1 fl1 fc1 fa2 fl2 fc2 (some ⟨tg,0,none⟩) T.length tc ya yn yc cl nm pa pl pc r1 r2 lo st ca cn cc ha hl' hc ma ml mc la L.length lc)∧wr.heap[w.heap.size+1]?=some (O8 0 0 0))
   (fun _ v _=>L.length-(intOf v).toNat)
  case atStart=>exact⟨0,some x0,⟨ua,un,uc,va,vn,vc⟩,by omega,rfl,rfl,HA,Y3,fun x hx=>(by obtain rfl:=Option.some.inj hx;exact⟨hu3,hP0⟩),hB3,P3,Z3⟩
  case round =>
   clear HA P3 Z3 Y3 hu3 hB3 m12 hB1 hs1 hB0 hP0 HST;obtain⟨q,o,u,hq,rfl,rfl,HA,Y,hu,hB,CP,CZ⟩:=hrel;obtain⟨ua,un,uc,va,vn,vc⟩:=u;simp only at Y;have hBs:=hB.size;by_cases hkn:q<L.length
   ·obtain⟨g,hg,hglt,_,hcell⟩:=Ao (Aa HIN' _ hB) (by omega);obtain⟨t1,t2,t3,t4⟩:=Hx L q hkn;have y0:=(hcell (q*3) (by omega)).trans t1;have y1:=(hcell (q*3+1) (by omega)).trans t2;have y2:=(hcell (q*3+2) (by omega)).trans t3;have hmem:=List.getElem_mem hkn;have hd:L.drop q=L[q]::L.drop (q+1):=List.drop_eq_getElem_cons hkn;have hr:=Aa HA;rw[hd,Ail]at hr;generalize L[q]=ins at *;obtain⟨ip,io,ix⟩:=ins;simp only at y0 y1 y2 hr;subst hg;have kb:(q:Int)<(L.length:Int):=by omega
    have hlk:=Aa HLK ⟨ip,io,ix⟩ hmem;have hpm:=Aa HPM ip;have hmq:=fun w' h=>Aa HMQ ip w' h;have hgo:=fun w'=>Iw io w';simp only at hlk;generalize mp ip=MPP at *;have HLI:=Ac hlk;have HMI:=Ac hmq;have HGI:=Ac hgo;have HRR:=Ac hr;have hBI:=hB.alloc hBs (O9 ip io ix);have CP1:=Af CP (O9 ip io ix);have CZ1:=Af CZ (O9 ip io ix);have CI1:=Ad wr (O9 ip io ix);have CY1:=Af Y (O9 ip io ix);clear hlk hmq hgo hd hcell hr HA t1 t2 t3 t4;go_wp2_with (refine wpList_load_row (by rfl) 212 (.tmp 1) (by rfl) w.heap.size (by rfl) 212 _ (0,0) _ CP1 Tryz.underlying212 (by rfl) Tryz.infoPass ?_)
    refine(Aa HMI _ hBI).mono ?_;rintro e w4 ⟨u2,rfl,hu2,hb4⟩;obtain⟨ua2,un2,uc2,va2,vn2,vc2⟩:=u2;have hB4:=QB hBI hb4;have hs4:=hB4.size;have CP4:=stay hb4 CP1;have CZ4:=stay hb4 CZ1;have CI4:=stay hb4 CI1;have X4:=stay hb4 CY1;have lI:=lt_of_block Y;have x0':=Ab X4 0;have x1':=Ab X4 1;obtain⟨p0,p1⟩:=fr2 X4;have lX:=lt_of_block X4;have lIn:=lt_of_block CI4;simp at x0' x1'
    go_upto_if 33 with fail
    go_cut [4] from 23 to 54 (fun s4 wx=>∃ u':FrV,s4=.bool (MPP.or o).isSome∧wx.heap[w1.heap.size]?=some (O18 u'.la u'.ln u'.lc u'.sa u'.sn u'.sc)∧(∀ x,MPP.or o=some x→u'.is x wx∧P x) ∧
     Below w.heap.size w wx∧wx.heap[w.heap.size]?=some (O20 (some ⟨tg,0,none⟩) T.length tc ya yn yc cl nm pa pl pc r1 r2 lo st ca cn cc ha hl' hc ma ml mc (some ⟨g,0,none⟩) L.length lc fa1 fl1 fc1 fa2 fl2 fc2 (some ⟨tg,0,none⟩) T.length tc ya yn yc cl nm pa pl pc r1 r2 lo st ca cn cc ha hl' hc ma ml mc (some ⟨g,0,none⟩) L.length lc)∧wx.heap[w.heap.size+1]?=some (O8 0 0 0)∧wx.heap[wr.heap.size]?=some (O9 ip io ix))
    case first =>
     cases MPP with
     | none =>
      go_wp2
      go_meet
      case rel=>exact⟨⟨ua,un,uc,va,vn,vc⟩,rfl,Af X4 _,fun x hx=>⟨(((hu x hx).1.below (QN _)).below hb4).below (QN _),(hu x hx).2⟩,hB4.alloc hs4 _,Af CP4 _,Af CZ4 _,Af CI4 _⟩
     | some z =>
      have hPz:=hpm z rfl;go_wp2
      go_meet
      case rel=>exact⟨⟨ua2,un2,uc2,va2,vn2,vc2⟩,rfl,Af (Ei X4 _ _) _,fun x hx=>(by obtain rfl:=Option.some.inj hx;exact⟨(hu2.set2 X4 _ _).below (QN _),hPz⟩),((hB4.setCell (by simp;omega) _).setCell (by simp;omega) _).alloc (by simp;omega) _,Af ((Dm (by omega)).trans CP4) _,Af ((Dm (by omega)).trans CZ4) _,Af ((Dm (by omega)).trans CI4) _⟩
    case rest =>
     obtain⟨u3,rfl,X5,hu5,hB5,P5,Z5,I5⟩:=hcut;obtain⟨ua3,un3,uc3,va3,vn3,vc3⟩:=u3;simp only at X5;have hs5:=hB5.size;have lX5:=lt_of_block X5;have hr:=Aa HRR;clear CP4 CZ4 CI4 X4 x0' x1' p0 p1 lX lIn hu2 hu hb4 hB4 hs4 CP1 CZ1 CI1 CY1 CP CZ Y hBI HRR y0 y1 y2 hpm HMI;generalize MPP.or o=o1 at *;cases o1 with
     | none =>
      have HG:Hid (Ail mp lk bh (L.drop (q+1)) none=R):=hr;clear hr;go_wp2
      go_roundw
      case rel=>exact⟨q+1,none,⟨ua3,un3,uc3,va3,vn3,vc3⟩,by omega,rfl,by go_num,HG,X5,fun x hx=>(by cases hx),hB5,P5,Z5⟩
      case measure=>simp[intOf];omega
     | some x =>
      obtain⟨hux,hPx⟩:=hu5 x rfl;have hl5:=Aa HLI ⟨ua3,un3,uc3,va3,vn3,vc3⟩ x _ hB5 hux hPx;simp only at hr hl5;have hbhx:∀ y,bh ⟨ip,io,ix⟩ x=some y→(if Af5 io=true then bh ⟨ip,io,ix⟩ x else none)=if Af5 io=true then some y else none:=fun y hy=>by rw[hy]
      generalize lk ⟨ip,io,ix⟩ x=LV at *;have HL5:=Ac hl5;clear hl5 hu5;have x0':=Ab X5 0;have x1':=Ab X5 1;obtain⟨i0,i1,i2⟩:=cl3 I5;simp at x0' x1' i0 i1 i2;by_cases hl0:LV=0
      ·rw[if_neg (by simpa using hl0)]at hr;have HRR:=Ac hr;subst hl0;clear hr;go_wp2_with (refine wpList_load_row (by rfl) 212 (.tmp 1) (by rfl) w.heap.size (by rfl) 212 _ (0,0) _ P5 Tryz.underlying212 (by rfl) Tryz.infoPass ?_)
       refine(Aa HL5).mono ?_;rintro e w6 ⟨u6,rfl,hy6,hb6⟩;obtain⟨y,hy,hu6,hPy⟩:=hy6 (by trivial);obtain⟨ua6,un6,uc6,va6,vn6,vc6⟩:=u6;have hr:=Aa HRR;rw[hbhx y hy]at hr;have hB6:=hB5.trans (hb6.mono hs5);have hs6:=hB6.size;have P6:=stay hb6 P5;have Z6:=stay hb6 Z5;have I6:=stay hb6 I5;have X6:=stay hb6 X5;have z0':=Ab X6 0;have z1':=Ab X6 1;obtain⟨e0,e1⟩:=fr2 X6;have lX6:=lt_of_block X6;have j1:=Ab I6 1;have lI6:=lt_of_block I6;simp at z0' z1' j1;clear hbhx hy x0' x1' i0 i1 i2 hb6 P5 Z5 I5 X5 hux HRR;have HR6:=Ac hr;clear hr;have I7:((w6.setCell ⟨w1.heap.size,0,none⟩ (.slice ua6 un6 uc6)).setCell ⟨w1.heap.size,1,none⟩ (.slice va6 vn6 vc6)).heap[wr.heap.size]?=some (O9 ip io ix):=(Dm (by omega)).trans I6;have k1:=Ab I7 1;have lI7:=lt_of_block I7;simp at k1;go_wp2_with fail
       refine(Aa HGI _).mono ?_;rintro e w7 ⟨rfl,rfl⟩;have hr:=Aa HR6;generalize Af5 io=gi at *;cases gi
       all_goals
        have HG:=Ac hr;clear hr HR6;go_wp2
        go_roundw
        case rel=>exact⟨q+1,_,⟨ua6,un6,uc6,va6,vn6,vc6⟩,by omega,rfl,by go_num,HG,Af (Ei X6 _ _) _,fun x hx=>(by first | (cases hx;done) | (obtain rfl:=Option.some.inj hx;exact⟨(hu6.set2 X6 _ _).below (QN _),hPy⟩)),((hB6.setCell (by simp;omega) _).setCell (by simp;omega) _).alloc (by simp;omega) _,Af ((Dm (by omega)).trans P6) _,Af ((Dm (by omega)).trans Z6) _⟩
        case measure=>simp[intOf];omega
      ·rw[if_pos hl0]at hr;have hl':(LV != 0)=true:=by simpa using hl0
       obtain rfl:=hr;clear hl0 hbhx;go_wp2_with (refine wpList_load_row (by rfl) 212 (.tmp 1) (by rfl) w.heap.size (by rfl) 212 _ (0,0) _ P5 Tryz.underlying212 (by rfl) Tryz.infoPass ?_)
       refine(Aa HL5).mono ?_;rintro e w6 ⟨u6,rfl,-,hb6⟩;obtain⟨ua6,un6,uc6,va6,vn6,vc6⟩:=u6;have hB6:=hB5.trans (hb6.mono hs5);have hs6:=hB6.size;have Z6:=stay hb6 Z5;have I6:=stay hb6 I5;have j0:=Ab I6 0;have lI6:=lt_of_block I6;simp at j0;obtain⟨z0,z1,z2⟩:=cl3 Z6;simp at z0 z1 z2;obtain⟨q0,q1,q2⟩:=fr3 Z6;have lr:=lt_of_block Z6;clear x0' x1' i0 i1 i2 hb6;go_wp2_with fail
       refine bodyPost_ret (v:=.agg #[.int .i64 LV,.int .i64 0,.int .i64 ip]) (by simp[results,Tryz.results129,go_sem,z0,z1,z2,lr]) rfl ?_;exact⟨rfl,by repeat (first | refine Below.setCell ?_ (by simp) _ | refine Below.alloc ?_ (by first | omega | (simp;omega)) _ | exact hB6)⟩
   ·have hr:=Aa HA;rw[List.drop_eq_nil_of_le (by omega),Ail]at hr;obtain rfl:=hr;have kb:¬ (q:Int)<(L.length:Int):=by omega
    obtain⟨z0,z1,z2⟩:=cl3 CZ;simp at z0 z1 z2;obtain⟨q0,q1,q2⟩:=fr3 CZ;have lr:=lt_of_block CZ;clear HA;go_wp2_with fail
    refine bodyPost_ret (v:=.agg #[.int .i64 0,.int .i64 0,.int .i64 0]) (by simp[results,Tryz.results129,go_sem,z0,z1,z2]) rfl ?_;exact⟨rfl,by repeat (first | refine Below.setCell ?_ (by simp) _ | exact hB)⟩
end Go.Proofs.YtpcgnjolfahacaaGreat
