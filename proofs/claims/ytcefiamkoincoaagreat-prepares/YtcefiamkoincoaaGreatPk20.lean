/- a part of the proof -/
import Derived.Laws.Rows
import Derived.Deep.Cut
import Derived.Deep.CutRange
import Derived.Laws.Tables
import Derived.Test.YtcefiamkoincoaaGreatPk19
set_option maxRecDepth 100000
set_option maxHeartbeats 40000000
set_option linter.unusedVariables false
set_option linter.unusedSimpArgs false
namespace Go.Proofs.YtcefiamkoincoaaGreat
open Go.RowKit
theorem Sm (m:PM) (ps:List (Int × Int)) (lo':Nat) (w:World) (hlo:m.lo=(lo':Int)) (hl8:lo'≤1000) (hps:TyR w (.slice m.pa m.pl m.pc) ps) (hp8:ps.length≤1000) :
  Calls Tryz.prog 78 #[m.val] w fun e w'=>∃ v:FrV,e=.returned v.val∧v.is (Ade m.cl ps lo') w'∧Below w.heap.size w w':=by
 obtain⟨i0,hi,hz0,hz1,hz2⟩:=info_parts Tryz.infoType;obtain⟨cl,nm,pa,pl,pc,r1,r2,lo,st,ca,cn,cc,ha,hl,hc,ma,ml,mc⟩:=m;simp only[PM.val]at hlo hps ⊢;subst hlo;have hRR:=fun w=>Df cl w;have HRR:=Ac hRR;clear hRR;have hB0:=Ak w (O20 cl nm pa pl pc r1 r2 (lo':Int) st ca cn cc ha hl hc ma ml mc) (O27 none 0 0 none 0 0);have C0:=Ah w (O20 cl nm pa pl pc r1 r2 (lo':Int) st ca cn cc ha hl hc ma ml mc) (O27 none 0 0 none 0 0);have D0:=Ag w (O20 cl nm pa pl pc r1 r2 (lo':Int) st ca cn cc ha hl hc ma ml mc) (O27 none 0 0 none 0 0);unfold Ade;generalize hO:Adt cl ps=O;unfold Adt at hO
 -- what follows the head, for either head
 by_cases h1:cl=255
 ·subst h1;rw[if_pos rfl,List.nil_append]at hO;subst hO;go_enter Tryz.func78,Tryz.ntmps78;go_wp2_with (at_builtin;refine Bw rfl _ _ rfl (w.heap.size+1+1) _ [] ps pa pl pc rfl (World.ownsRow_nil _ _ _ _) rfl (hps.below hB0) (by simp;omega) (by simp) ?_)
  intro v' w1 hown1 hgrow;have hB1:=hB0.grown hgrow (by simp;omega) (fun j hj=>by simp[Value.ownBlock]at hj);have C1:=(hgrow.block _ (lt_of_block C0) (by simp[Value.ownBlock])).trans C0;have D1:=(hgrow.block _ (lt_of_block D0) (by simp[Value.ownBlock])).trans D0;clear hgrow C0 D0 hB0;have hs1:=hB1.size;have hown1':w1.ownsRow (w.heap.size+1+1) 39 2 v' (ps++List.replicate 0 ((0:Int),(0:Int))).length (Am (ps++List.replicate 0 ((0:Int),(0:Int)))):=by simpa using hown1
  go_wp2
  go_loopw [3] (fun v wr=>∃ q:Nat,q≤lo' - ps.length∧wr.ownsRow (w.heap.size+1+1) 39 2 v (ps.length+q) (Am (ps++List.replicate q ((0:Int),(0:Int))))∧Below w.heap.size w wr∧wr.heap[w.heap.size]?=some (O20 255 nm pa pl pc r1 r2 (lo':Int) st ca cn cc ha hl hc ma ml mc)∧wr.heap[w.heap.size+1]?=some (O27 none 0 0 none 0 0))
   (fun v _=>lo' - Dk v)
  case atStart=>exact⟨0,by omega,by simpa using hown1',hB1,C1,D1⟩
  case round =>
   clear hown1 hown1' hB1 C1 D1 hs1;obtain⟨q,hq,hown,hB,hC,hD⟩:=hrel;have hBs:=hB.size;have lC:=lt_of_block hC;have lD:=lt_of_block hD;obtain⟨ua,uc,rfl⟩:=Af hown;have x5:=Ab hC 5;simp at x5;by_cases hkn:ps.length+q<lo'
   ·have kb:((ps.length+q:Nat):Int)<(lo':Int):=by omega
    have HD:Hid (ps++List.replicate (q+1) ((0:Int),(0:Int))=ps++List.replicate q ((0:Int),(0:Int))++[((0:Int),(0:Int))]):=by unfold Hid;rw[List.replicate_succ',List.append_assoc]
    go_wp2_with fail
    refine(Hn _).mono ?_;rintro e wt ⟨rfl,hbt⟩;replace hown:=Av hown (Kp.of_below (e:=none) hbt) (by decide);replace hB:=hB.trans (hbt.mono hBs);replace hC:=stay hbt hC;replace hD:=stay hbt hD;replace hBs:=hB.size;replace lC:=lt_of_block hC;replace lD:=lt_of_block hD;clear hbt x5;go_wp2_with (at_builtin;refine wpList_append_own _ rfl _ _ 48 rfl (w.heap.size+1+1) 39 i0 _ 2 16 Tryz.underlying48 hi hz0 hz1 hz2 rfl (by decide) _ _ _ rfl (hown.alloc _) ⟨wt.heap.size,0,none⟩ 1 1 [.int .i64 0,.int .i64 0] rfl rfl ?c1 ?c2 ?c3 ?c4 ?c5 ?_)
    case c1=>exact Au _ _ _ _ rfl
    case c2=>intro u hu;simp at hu;subst hu;rfl
    case c3=>unfold maxLen;omega
    case c4=>omega
    case c5=>simp;omega
    intro v2 w2 hown2 hgrow2 _;have hB2:=(hB.alloc hBs (O7 0 0)).grown hgrow2 (by simp;omega) (fun j hj=>by have:=(hown.lt j hj).1;omega);have C2:=(hgrow2.block _ (lt_of_block (Aj hC (O7 0 0))) (fun hh=>by have:=(hown.lt _ hh.symm).1;omega)).trans (Aj hC (O7 0 0));have D2:=(hgrow2.block _ (lt_of_block (Aj hD (O7 0 0))) (fun hh=>by have:=(hown.lt _ hh.symm).1;omega)).trans (Aj hD (O7 0 0));obtain⟨ua2,uc2,rfl⟩:=Af hown2;have hown3:w2.ownsRow (w.heap.size+1+1) 39 2 (.slice ua2 (ps.length+q+1) uc2) (ps.length+(q+1)) (Am (ps++List.replicate (q+1) ((0:Int),(0:Int)))):=by rw[Aa HD,Bs];exact hown2
    clear hgrow2 hown hown2 hB hC hD;go_wp2
    go_roundw
    case rel=>exact⟨q+1,by omega,hown3,hB2,C2,D2⟩
    case measure=>simp[Dk];omega
   ·have kb:¬ ((ps.length+q:Nat):Int)<(lo':Int):=by omega
    have eq:lo' - ps.length=q:=by omega
    obtain⟨z0,z1⟩:=cl2 hD;obtain⟨q0,q1⟩:=fr2 hD;simp at z0 z1;have hk1:=(Kp.set_lo (e:=none) (b:=w.heap.size+1+1) (i:=0) (g:=w.heap.size+1) (w:=wr) (by omega) (.slice ua (ps.length+q) uc)).trans (Kp.set_lo (i:=1) (g:=w.heap.size+1) (by omega) (.slice none 0 0));have hown3:=Av hown hk1 (by decide);have HEQ:=Ac eq;clear eq;go_wp2_with fail
    refine bodyPost_ret (v:=.agg #[.slice ua (ps.length+q) uc,.slice none 0 0]) (by simp[results,Tryz.results78,go_sem,z0,z1]) rfl ?_;refine⟨⟨ua,ps.length+q,uc,none,0,0⟩,rfl,⟨?_,TyR.nil _,?_,Nat.zero_le _⟩,(hB.setCell (by simp) _).setCell (by simp) _⟩
    ·rw[Aa HEQ];exact Bl hown3 (by simp)
    ·rw[Aa HEQ]
     simp
     omega
 ·have h1':(cl != 255)=true:=by simpa using h1
  rw[if_neg h1]at hO;clear h1;go_enter Tryz.func78,Tryz.ntmps78;go_wp2_with fail
  refine(Aa HRR _).mono ?_;rintro e w0 ⟨rfl,hb0⟩;have hB0':=QB hB0 hb0;have C0':=stay hb0 C0;have D0':=stay hb0 D0;have hs0:=hB0'.size;have ls0:=lt_of_block D0';have x2:=Ab C0' 2;have lC0:=lt_of_block C0';simp at x2;go_wp2_with (at_builtin;refine wpList_append_own _ rfl _ _ 48 rfl (w.heap.size+1+1) 39 i0 _ 2 16 Tryz.underlying48 hi hz0 hz1 hz2 rfl (by decide) _ _ _ rfl (World.ownsRow_nil _ _ _ _) ⟨w0.heap.size,0,none⟩ 1 1 [.int .i64 3,.int .i64 cl] rfl rfl ?c1 ?c2 ?c3 ?c4 ?c5 ?_)
  case c1=>exact Au _ _ _ _ rfl
  case c2=>intro u hu;simp at hu;rcases hu with rfl | rfl<;>rfl
  case c3=>unfold maxLen;omega
  case c4=>omega
  case c5=>simp;omega
  intro v0 w00 hown0 hgrow0 _;have hB00:=(hB0'.alloc hs0 (O7 3 cl)).grown hgrow0 (by simp;omega) (fun j hj=>by simp[Value.ownBlock]at hj);have C00:=(hgrow0.block _ (lt_of_block (Aj C0' (O7 3 cl))) (by simp[Value.ownBlock])).trans (Aj C0' (O7 3 cl));have D00:=(hgrow0.block _ (lt_of_block (Aj D0' (O7 3 cl))) (by simp[Value.ownBlock])).trans (Aj D0' (O7 3 cl));have hown0':w00.ownsRow (w.heap.size+1+1) 39 2 v0 ([((3:Int),cl)]:List (Int × Int)).length (Am [((3:Int),cl)]):=by simpa[Am] using hown0
  have hs00:=hB00.size;have ls00:=lt_of_block D00;have lC00:=lt_of_block C00;have x2':=Ab C00 2;simp at x2';clear hgrow0 hown0 C0 D0 hB0 hb0 C0' D0' hB0' x2;go_wp2_with (at_builtin;refine Bw rfl _ _ rfl (w.heap.size+1+1) _ [(3,cl)] ps pa pl pc rfl hown0' rfl (hps.below hB00) (by simp;omega) (by omega) ?_)
  intro v' w1 hown1 hgrow;have hB1:=hB00.grown hgrow (by omega) (fun j hj=>by have:=(hown0'.lt j hj).1;omega);have C1:=(hgrow.block _ (lt_of_block C00) (fun hh=>by have:=(hown0'.lt _ hh.symm).1;omega)).trans C00;have D1:=(hgrow.block _ (lt_of_block D00) (fun hh=>by have:=(hown0'.lt _ hh.symm).1;omega)).trans D00;have hOl:([((3:Int),cl)]++ps).length≤1001:=by simp;omega
  have hown1':w1.ownsRow (w.heap.size+1+1) 39 2 v' O.length (Am O):=hown1;rw[hO]at hOl;have HOL:=hOl;clear hgrow C00 D00 hB00 hown0' hown1 hO x2';have hs1:=hB1.size;go_wp2
  go_loopw [3] (fun v wr=>∃ q:Nat,q≤lo' - O.length∧wr.ownsRow (w.heap.size+1+1) 39 2 v (O.length+q) (Am (O++List.replicate q ((0:Int),(0:Int))))∧Below w.heap.size w wr∧wr.heap[w.heap.size]?=some (O20 cl nm pa pl pc r1 r2 (lo':Int) st ca cn cc ha hl hc ma ml mc)∧wr.heap[w.heap.size+1]?=some (O27 none 0 0 none 0 0))
   (fun v _=>lo' - Dk v)
  case atStart=>exact⟨0,by omega,by simpa using hown1',hB1,C1,D1⟩
  case round =>
   clear hown1' hB1 C1 D1 hs1;obtain⟨q,hq,hown,hB,hC,hD⟩:=hrel;have hBs:=hB.size;have lC:=lt_of_block hC;have lD:=lt_of_block hD;obtain⟨ua,uc,rfl⟩:=Af hown;have x5:=Ab hC 5;simp at x5;by_cases hkn:O.length+q<lo'
   ·have kb:((O.length+q:Nat):Int)<(lo':Int):=by omega
    have HD:Hid (O++List.replicate (q+1) ((0:Int),(0:Int))=O++List.replicate q ((0:Int),(0:Int))++[((0:Int),(0:Int))]):=by unfold Hid;rw[List.replicate_succ',List.append_assoc]
    go_wp2_with fail
    refine(Hn _).mono ?_;rintro e wt ⟨rfl,hbt⟩;replace hown:=Av hown (Kp.of_below (e:=none) hbt) (by decide);replace hB:=hB.trans (hbt.mono hBs);replace hC:=stay hbt hC;replace hD:=stay hbt hD;replace hBs:=hB.size;replace lC:=lt_of_block hC;replace lD:=lt_of_block hD;clear hbt x5;go_wp2_with (at_builtin;refine wpList_append_own _ rfl _ _ 48 rfl (w.heap.size+1+1) 39 i0 _ 2 16 Tryz.underlying48 hi hz0 hz1 hz2 rfl (by decide) _ _ _ rfl (hown.alloc _) ⟨wt.heap.size,0,none⟩ 1 1 [.int .i64 0,.int .i64 0] rfl rfl ?c1 ?c2 ?c3 ?c4 ?c5 ?_)
    case c1=>exact Au _ _ _ _ rfl
    case c2=>intro u hu;simp at hu;subst hu;rfl
    case c3=>unfold maxLen;omega
    case c4=>omega
    case c5=>simp;omega
    intro v2 w2 hown2 hgrow2 _;have hB2:=(hB.alloc hBs (O7 0 0)).grown hgrow2 (by simp;omega) (fun j hj=>by have:=(hown.lt j hj).1;omega);have C2:=(hgrow2.block _ (lt_of_block (Aj hC (O7 0 0))) (fun hh=>by have:=(hown.lt _ hh.symm).1;omega)).trans (Aj hC (O7 0 0));have D2:=(hgrow2.block _ (lt_of_block (Aj hD (O7 0 0))) (fun hh=>by have:=(hown.lt _ hh.symm).1;omega)).trans (Aj hD (O7 0 0));obtain⟨ua2,uc2,rfl⟩:=Af hown2;have hown3:w2.ownsRow (w.heap.size+1+1) 39 2 (.slice ua2 (O.length+q+1) uc2) (O.length+(q+1)) (Am (O++List.replicate (q+1) ((0:Int),(0:Int)))):=by rw[Aa HD,Bs];exact hown2
    clear hgrow2 hown hown2 hB hC hD;go_wp2
    go_roundw
    case rel=>exact⟨q+1,by omega,hown3,hB2,C2,D2⟩
    case measure=>simp[Dk];omega
   ·have kb:¬ ((O.length+q:Nat):Int)<(lo':Int):=by omega
    have eq:lo' - O.length=q:=by omega
    obtain⟨z0,z1⟩:=cl2 hD;obtain⟨q0,q1⟩:=fr2 hD;simp at z0 z1;have hk1:=(Kp.set_lo (e:=none) (b:=w.heap.size+1+1) (i:=0) (g:=w.heap.size+1) (w:=wr) (by omega) (.slice ua (O.length+q) uc)).trans (Kp.set_lo (i:=1) (g:=w.heap.size+1) (by omega) (.slice none 0 0));have hown3:=Av hown hk1 (by decide);have HEQ:=Ac eq;clear eq;go_wp2_with fail
    refine bodyPost_ret (v:=.agg #[.slice ua (O.length+q) uc,.slice none 0 0]) (by simp[results,Tryz.results78,go_sem,z0,z1]) rfl ?_;refine⟨⟨ua,O.length+q,uc,none,0,0⟩,rfl,⟨?_,TyR.nil _,?_,Nat.zero_le _⟩,(hB.setCell (by simp) _).setCell (by simp) _⟩
    ·rw[Aa HEQ];exact Bl hown3 (by simp)
    ·rw[Aa HEQ]
     simp
     omega
theorem Wh (b:PBd) (w:World) :
  Calls Tryz.prog 77 #[.agg #[.slice b.fa1 b.fl1 b.fc1,.slice b.fa2 b.fl2 b.fc2],.agg #[.slice (some ⟨b.tg,0,none⟩) b.T.length b.tc,.slice b.ya b.yn b.yc],.agg #[.int .i64 b.cl,.int .i64 b.nm,.slice b.pa b.pl b.pc,.int .i64 b.r1,.int .i64 b.r2,.int .i64 b.lo,.int .i64 b.st,.slice b.ca b.cn b.cc,.slice b.ha b.hl b.hc,.slice b.ma b.ml b.mc],.slice b.la b.L.length b.lc] w fun e w' =>
   e=.returned b.val∧Below w.heap.size w w':=by
 obtain⟨fa1,fl1,fc1,fa2,fl2,fc2,tg,tc,ya,yn,yc,cl,nm,pa,pl,pc,r1,r2,lo,st,ca,cn,cc,ha,hl,hc,ma,ml,mc,la,lc,T,L⟩:=b;simp only[PBd.val];go_enter Tryz.func77,Tryz.ntmps77;go_wp2;refine bodyPost_ret (v:=.agg #[.slice fa1 fl1 fc1,.slice fa2 fl2 fc2,.slice (some ⟨tg,0,none⟩) T.length tc,.slice ya yn yc,.int .i64 cl,.int .i64 nm,.slice pa pl pc,.int .i64 r1,.int .i64 r2,.int .i64 lo,.int .i64 st,.slice ca cn cc,.slice ha hl hc,.slice ma ml mc,.slice la L.length lc]) (by simp[results,Tryz.results77,go_sem]) rfl ?_;exact⟨rfl,Bp _ _ _ _ _⟩
theorem A5 {w:World}{k1 k2 k3:Nat}{a1 a2 b1 b2:Option Addr}{m1 d1 m2 d2 m3 d3 m4 d4:Nat}{cl nm r1 r2 lo st:Int}{pa ca ha ma:Option Addr}{pl pc cn cc hl hc ml mc:Nat} (hF:w.heap[k1]?=some (O1 a1 m1 d1 a2 m2 d2)) (hT:w.heap[k2]?=some (O2 b1 m3 d3 b2 m4 d4)) (hM:w.heap[k3]?=some (O20 cl nm pa pl pc r1 r2 lo st ca cn cc ha hl hc ma ml mc)) :
  (w.cell? ⟨k1,0,none⟩=some (.slice a1 m1 d1)∧w.cell? ⟨k1,1,none⟩=some (.slice a2 m2 d2))∧(w.cell? ⟨k2,0,none⟩=some (.slice b1 m3 d3)∧w.cell? ⟨k2,1,none⟩=some (.slice b2 m4 d4))∧w.cell? ⟨k3,0,none⟩=some (.int .i64 cl)∧w.cell? ⟨k3,1,none⟩=some (.int .i64 nm)∧w.cell? ⟨k3,2,none⟩=some (.slice pa pl pc)∧w.cell? ⟨k3,3,none⟩=some (.int .i64 r1)∧w.cell? ⟨k3,4,none⟩=some (.int .i64 r2)∧w.cell? ⟨k3,5,none⟩=some (.int .i64 lo)∧w.cell? ⟨k3,6,none⟩=some (.int .i64 st)∧w.cell? ⟨k3,7,none⟩=some (.slice ca cn cc)∧w.cell? ⟨k3,8,none⟩=some (.slice ha hl hc)∧w.cell? ⟨k3,9,none⟩=some (.slice ma ml mc):=by
 refine⟨⟨?_,?_⟩,⟨?_,?_⟩,?_,?_,?_,?_,?_,?_,?_,?_,?_,?_⟩
 all_goals first | (rw[Ab hF];rfl) | (rw[Ab hT];rfl) | (rw[Ab hM];rfl)
theorem Cf {P:Program}{ops:Array Oper}{o:Oper}{a:Act}{w:World}{K:Act→World→Prop}{Q:Exit→Act→World→Prop}{E:Prop} (hg:o.guard=none) (ty:TypeId) (x y:Operand) (ho:o.op=.store ty x y)
  (g:Nat) (cells:Array Value) (hx:a.eval x=.pointer (some ⟨g,0,none⟩)) (hy:a.eval y=.agg cells) (t:TypeId) (old:Array Value) (hgg:w.heap[g]?=some (.cells old t (0,0))) (hi:(P.info? ty).map (·.size)=some cells.size)
  (hold:old.size=cells.size) (h1:cells.all (·.oneCell')=true) (h:K (a.put o.dst undef) (w.setRow g cells)):if Region.wanted o (yielded ops a.tmps)=true then Oper.wp P o a w K Q else E:=by
 have hw:Region.wanted o (yielded ops a.tmps)=true:=by simp[Region.wanted,hg]
 rw[if_pos hw];exact wp_store_row ty x y ho g cells hx hy t old hgg hi hold h1 h
theorem Ej {B g:Nat}{w0 w:World} (hb:Below B w0 w) (hBg:B≤g) (cs:Array Value):Below B w0 (w.setRow g cs) :=
 ⟨hb.os,hb.tape,hb.output,by rw[setRow_size];exact hb.size,fun k hk=>(setRow_other w g k cs (by omega)).trans (hb.block k hk)⟩
theorem Dw {w:World}{g:Nat}{old cs:Array Value}{t:TypeId} (hg:w.heap[g]?=some (.cells old t (0,0))):(w.setRow g cs).heap[g]?=some (.cells cs t (0,0)):=setRow_heap w g old cs t (0,0) hg
theorem Ay {w:World}{g k:Nat}{cs:Array Value} (h:k≠g):(w.setRow g cs).heap[k]?=w.heap[k]?:=setRow_other w g k cs h
theorem Xy {α β:Type}{l:List (α × β)}{r:List α} (h:l.map Prod.fst=r) {p:α→Prop} (hp:∀ x∈r,p x):∀ y∈l,p y.1:=fun y hy=>hp y.1 (by rw[← h];exact List.mem_map.2 ⟨y,hy,rfl⟩)
def Aay (T:List Int) (x:Zt):Prop:=(∀ t∈x.locals,Tr.Arg T t.1 t.2)∧∀ t∈x.stack,Tr.Arg T t.1 t.2
theorem Vz (T:List Int) (cs:List Rd.Cls) (h7:7≤cs.length) (hg:∀ i,i<7→(cs.getD i ⟨0,[]⟩).fields=[]) (ms:List Rd.Mth) (res:Int × Int) (op:Int) (n:Nat) (hn:op=17∨op=18→n<(Rf.fieldsTo T cs (cs.length-7)).length) :
  Abo (cs.map Rd.Cls.fields) ms res op (n:Int)=Aag (Rf.fieldsTo T cs (cs.length-7)) ms res op (n:Int):=by
 unfold Abo Aag;by_cases h17:op=17
 ·subst h17;rw[Jz T cs h7 hg n (hn (.inl rfl)),Int.toNat_natCast]
 ·by_cases h18:op=18
  ·subst h18;rw[Jz T cs h7 hg n (hn (.inr rfl)),Int.toNat_natCast]
  ·simp only[h17,h18,if_false]
theorem Ts (T:List Int) (cs:List Rd.Cls) (h7:7≤cs.length) (hg:∀ i,i<7→(cs.getD i ⟨0,[]⟩).fields=[]) (ms:List Rd.Mth) (op:Int) (n:Nat) (hn:op=17→n<(Rf.fieldsTo T cs (cs.length-7)).length) :
  Abf (cs.map Rd.Cls.fields) ms op (n:Int)=Aal (Rf.fieldsTo T cs (cs.length-7)) ms op (n:Int):=by
 unfold Abf Aal;by_cases h17:op=17
 ·subst h17;rw[Jz T cs h7 hg n (hn rfl),Int.toNat_natCast]
  simp
 ·simp only[h17,if_false];have:(op=0∨op=24∨op=7∨op=8∨op=9∨op=10)↔(op=0∨op=7∨op=8∨op=9∨op=10∨op=24):=by omega
  simp only[this]
theorem Mf {T:List Int}{ms:List Rd.Mth}:∀ (l:List Rd.Mth) (k:Nat),Abz T ms k l<0→∀ m∈l,∃ j,Acp T ms j m=true
 | [],_,_=>by simp
 | m::r,k,h=>by
  rw[Abz]at h;by_cases h1:Acp T ms k m=false
  ·rw[if_pos h1]at h;omega
  ·rw[if_neg h1]at h;intro x hx;rcases List.mem_cons.1 hx with rfl | hx
   ·exact⟨k,by simpa using h1⟩
   ·exact Mf r _ h x hx
theorem Kd {T:List Int}{nf:Int}{ow:List Int}:∀ (l:List Rd.Mth) (k:Nat),(Ab2 T nf ow k l).1=0→∀ m∈l,(Adg T nf ow m).1=0
 | [],_,_=>by simp
 | m::r,k,h=>by
  rw[Ab2]at h;by_cases h1:(Adg T nf ow m).1≠0
  ·rw[if_pos h1]at h;exact absurd h h1
  ·rw[if_neg h1]at h;intro x hx;rcases List.mem_cons.1 hx with rfl | hx
   ·simpa using h1
   ·exact Kd r _ h x hx
theorem Nu {T:List Int}:∀ (l:List Rd.Cls) (k:Nat),(Tr.inCl T k l).1=0→∀ c∈l,Tr.allPlainB T c.fields=true
 | [],_,_=>by simp
 | c::r,k,h=>by
  rw[Tr.inCl]at h;by_cases h1:7+(k:Int)≤c.above
  ·rw[if_pos h1]at h;simp at h
  ·rw[if_neg h1]at h;by_cases h2:Tr.allPlainB T c.fields=false
   ·rw[if_pos h2]at h;simp at h
   ·rw[if_neg h2]at h;intro x hx;rcases List.mem_cons.1 hx with rfl | hx
    ·simpa using h2
    ·exact Nu r _ h x hx
theorem Jk {α:Type}{f:α→Bool}:∀ (l:List α) (k:Nat),Cd.firstIx f k l<0→∀ x∈l,f x=false
 | [],_,_=>by simp
 | x::r,k,h=>by
  rw[Cd.firstIx]at h;by_cases h1:f x=true
  ·rw[if_pos h1]at h;omega
  ·rw[if_neg h1]at h;intro y hy;rcases List.mem_cons.1 hy with rfl | hy
   ·simpa using h1
   ·exact Jk r _ h y hy
theorem Jh {T c:List Int}:∀ (l:List Rd.Mp) (i:Nat) (last:Int),Cd.mapsBad T c i last l<0→∀ x∈l,Cd.frAll T c x.locals=true∧Cd.frAll T c x.stack=true∧Cd.begB c x.place=true
 | [],_,_,_=>by simp
 | m::r,i,last,h=>by
  rw[Cd.mapsBad]at h;by_cases h1:Cd.begB c m.place=false
  ·rw[if_pos h1]at h;omega
  ·rw[if_neg h1]at h;by_cases h2:m.place≤last
   ·rw[if_pos h2]at h;omega
   ·rw[if_neg h2]at h;by_cases h3:Cd.frAll T c m.locals=false
    ·rw[if_pos h3]at h;omega
    ·rw[if_neg h3]at h;by_cases h4:Cd.frAll T c m.stack=false
     ·rw[if_pos h4]at h;omega
     ·rw[if_neg h4]at h;intro y hy;rcases List.mem_cons.1 hy with rfl | hy
      ·exact⟨by simpa using h3,by simpa using h4,by simpa using h1⟩
      ·exact Jh r _ _ h y hy
structure Aez (m:Rd.Mth):Prop where
 lo:0≤m.locals∧m.locals≤8
 st:0≤m.stack∧m.stack≤8
 ml:∀ q∈m.maps,q.locals.length=m.locals.toNat∧(q.stack.length:Int)≤m.stack
 c255:∀ x∈m.code,x≤255
theorem Zd (s:List UInt8) (L H:Int) (hH:0≤H) (t:Rd.St):(Rd.mp s L H t).1.locals.length=L.toNat∧((Rd.mp s L H t).1.stack.length:Int)≤H:=by
 simp only[Rd.mp,Rd.tys,Rd.rep_len];have:=Rd.cn_bd s 0 H (Rd.rep (Rd.ty s) L.toNat (Rd.nx s t).2).2 hH;exact⟨trivial,by omega⟩
theorem Y3 (s:List UInt8) (t:Rd.St):Aez (Rd.mth s t).1:=by
 simp only[Rd.mth];generalize (Rd.nx s (Rd.nx s t).2).2=t1;generalize Rd.cn s 0 4 t1=p at *;generalize (Rd.tys s p.1.toNat p.2).2=t2;generalize (Rd.ty s t2).2=t3;have h2:=Rd.cn_bd s 0 8 t3 (by omega);generalize Rd.cn s 0 8 t3=l at *;have h3:=Rd.cn_bd s 0 8 l.2 (by omega);generalize Rd.cn s 0 8 l.2=h at *;refine⟨h2,h3,?_,by simp only[Rd.codes];exact Eg (fun x:Int=>x≤255) _ (fun t=>(Rd.nx_bd s t).2) _ _⟩;simp only[Rd.mps];exact Eg (fun q:Rd.Mp=>q.locals.length=l.1.toNat∧(q.stack.length:Int)≤h.1) _ (fun t=>Zd s l.1 h.1 h3.1 t) _ _
theorem Yq (s:List UInt8):∀ m∈(Rd.read s).1.methods,Aez m:=by
 unfold Rd.read
 split
 ·simp
 ·split
  ·simp
  ·simp only[Rd.fil];exact Eg Aez _ (fun t=>Y3 s t) _ _
structure Aen (T:List Int) (nf:Int) (ms:List Rd.Mth) (m:Rd.Mth):Prop where
 bd:Ad5 m
 rd:Aez m
 unread:Cd.unread m.code<0
 arg:∀ p∈Cd.places m.code,Cd.argAt T nf (ms.map Rd.Mth.cl) m.locals m.code p=true
 hnd:∀ h∈m.handlers,Cd.hndBad T m.code h=false
 map:∀ q∈m.maps,Cd.frAll T m.code q.locals=true∧Cd.frAll T m.code q.stack=true∧Cd.begB m.code q.place=true
 cl:m.cl=255∨Tr.hasB T m.cl=true
 res:Tr.plainB T m.result.1 m.result.2=true∨m.result=(0,0)
 ps:Tr.allPlainB T m.params=true
 own:((Adt m.cl m.params).length:Int)≤m.locals
theorem Vn {T:List Int}{nf:Int}{ms:List Rd.Mth}{m:Rd.Mth} (hb:Ad5 m) (hr:Aez m) (hh:∃ j,Acp T ms j m=true) (h:(Adg T nf (ms.map Rd.Mth.cl) m).1=0):Aen T nf ms m:=by
 unfold Adg at h;by_cases h1:0≤Cd.badCode T nf (ms.map Rd.Mth.cl) m.locals m.code
 ·rw[if_pos h1]at h;simp at h
 rw[if_neg h1]at h;by_cases h2:0≤Cd.firstIx (Cd.hndBad T m.code) 0 m.handlers
 ·rw[if_pos h2]at h;simp at h
 rw[if_neg h2]at h;by_cases h3:0≤Cd.mapsBad T m.code 0 (-1) m.maps
 ·rw[if_pos h3]at h;simp at h
 unfold Cd.badCode at h1;have hu:Cd.unread m.code<0:=by
  by_cases hu:0≤Cd.unread m.code
  ·rw[if_pos hu]at h1;exact absurd hu h1
  ·omega
 rw[if_neg (by omega)]at h1;obtain⟨j,hj⟩:=hh;unfold Acp Ad1 at hj;by_cases g1:Aeo T m.cl m.name m.result.1 m.result.2=true
 ·rw[if_pos g1]at hj;simp at hj
 rw[if_neg g1]at hj;by_cases g2:Tr.allPlainB T m.params=false
 ·rw[if_pos g2]at hj;simp at hj
 rw[if_neg g2]at hj;by_cases g3:Abt m.cl m.locals m.params=true
 ·rw[if_pos g3]at hj;simp at hj
 unfold Aeo at g1;unfold Abt at g3;simp only[Bool.or_eq_true,Bool.and_eq_true,decide_eq_true_eq,Bool.not_eq_true',decide_eq_false_iff_not,not_or,not_and]at g1 g3;have g4:Cd.firstIx (Cd.hndBad T m.code) 0 m.handlers<0:=by omega
 have g5:Cd.mapsBad T m.code 0 (-1) m.maps<0:=by omega
 have g6:Cd.first (Cd.badArg T nf (ms.map Rd.Mth.cl) m.locals m.code) (Cd.places m.code)<0:=by omega
 refine⟨hb,hr,hu,?_,Jk _ _ g4,Jh _ _ _ g5,?_,?_,by simpa using g2,?_⟩
 ·intro p hp;have:=Ih g6 p hp;unfold Cd.badArg at this
  simpa using this
 ·by_cases h255:m.cl=255
  ·exact .inl h255
  ·have:=g1.1;rw[if_neg h255]at this;simp at this;exact .inr this.1
 ·by_cases hp:Tr.plainB T m.result.1 m.result.2=true
  ·exact .inl hp
  ·have:=g1.2 (by simpa using hp);exact .inr (by simpa[Prod.ext_iff] using this)
 ·unfold Adt;by_cases h255:m.cl=255
  ·rw[if_pos h255];simp;omega
  ·rw[if_neg h255];have:=g3.2 h255
   simp;omega
structure Ace (cs:List Rd.Cls) (ms:List Rd.Mth):Prop where
 ok:Tr.Ok (Tr.tree cs)
 l6:cs.length≤6
 m6:ms.length≤6
 fn:∀ c∈cs,c.fields.length≤1000
 fl:∀ c∈cs,Tr.allPlainB (Tr.tree cs) c.fields=true
 mt:∀ m∈ms,Aen (Tr.tree cs) (Cd.fieldSum cs:Int) ms m
theorem Dz (s:List UInt8) (h:(Rf.formed s).1=0):Ace (Rd.read s).1.classes (Rd.read s).1.methods∧(Rf.fil s).1=(Rd.read s).1.classes∧(Rf.fil s).2.1.map Rf.Mth.m=(Rd.read s).1.methods:=by
 rw[← Gt]at h;obtain⟨hc6,hfn⟩:=Gy s;obtain⟨hm6,hmb⟩:=Gi s;have hrd:=Yq s;unfold Acq at h;by_cases h0:(Rd.read s).2≠0
 ·rw[if_pos h0]at h;exact absurd h h0
 rw[if_neg h0]at h;obtain⟨e1,e2⟩:=(J6 s).2 (by simpa using h0);refine⟨?_,e1.symm,e2.symm⟩;unfold Ac9 at h;by_cases h1:(Tr.inCl (Tr.tree (Rd.read s).1.classes) 0 (Rd.read s).1.classes).1≠0
 ·rw[if_pos h1]at h;exact absurd h h1
 rw[if_neg h1]at h;have h1':(Tr.inCl (Tr.tree (Rd.read s).1.classes) 0 (Rd.read s).1.classes).1=0:=by simpa using h1
 have hT:=Qk _ (Ol s) h1';have hTl:=Cc (Rd.read s).1.classes;rw[Qe hT (by omega) (by omega) _ _ (fun o ho=>(hmb o ho).cl) (fun m hm=>(hmb m hm).code0)]at h;unfold Aeb at h;by_cases h2:0≤Abz (Tr.tree (Rd.read s).1.classes) (Rd.read s).1.methods 0 (Rd.read s).1.methods
 ·rw[if_pos h2]at h;simp at h
 rw[if_neg h2]at h;have h3:Abz (Tr.tree (Rd.read s).1.classes) (Rd.read s).1.methods 0 (Rd.read s).1.methods<0:=by omega
 exact⟨hT,hc6,hm6,hfn,Nu _ _ h1',fun m hm=>Vn (hmb m hm) (hrd m hm) (Mf _ _ h3 m hm) (Kd _ _ h m hm)⟩
def Cd.atI (c:List Int) (i:Int):Int:=if i<0 then -1 else if (c.length:Int)≤i then -1 else c.getD i.toNat 0
theorem Ha (s:ByteArray) (i:Int):Rf.at' s.data.toList i=Cd.atI (An s) i:=by
 unfold Rf.at' Cd.atI;rw[Cq];have hl:s.data.toList.length=s.size:=by simp
 rw[hl];by_cases h:i<0
 ·rw[if_pos h,if_pos h]
 ·rw[if_neg h,if_neg h];by_cases h2:(s.size:Int)≤i
  ·rw[if_pos h2,if_pos h2]
  ·rw[if_neg h2,if_neg h2];unfold An;simp only[List.getD_eq_getElem?_getD,List.getElem?_map];have:i.toNat<s.data.toList.length:=by omega
   rw[List.getElem?_eq_getElem this];rfl
theorem Ll (c:List Int) (p:Nat):Cd.nAt c p=Cd.atI c ((p:Int)+1):=by
 unfold Cd.nAt Cd.atI;rw[if_neg (show ¬ (p:Int)+1<0 by omega)];by_cases h:p+1<c.length
 ·rw[if_pos h,if_neg (by omega)]
  congr 1
 ·rw[if_neg h,if_pos (by omega)]
theorem El {c:List Int} (h:Cd.unread c<0):∀ p∈Cd.places c,c.getD p 0≤25∧p+Cd.wd (c.getD p 0)≤c.length:=by
 intro p hp;have:=Ih h p hp;unfold Cd.noRead at this;simp at this
 simpa using this
theorem Iu {c:List Int}{p:Nat} (h:p+Cd.wd (c.getD p 0)≤c.length) (h2:Cd.wd (c.getD p 0)=2):(Cd.insAt c p).n=Cd.atI c ((p:Int)+1)∧Cd.atI c ((p:Int)+1)=c.getD (p+1) 0:=by
 have:Cd.atI c ((p:Int)+1)=c.getD (p+1) 0:=by
  rw[← Ll];unfold Cd.nAt;rw[if_pos (by omega)]
 refine⟨?_,this⟩;rw[this];unfold Cd.insAt;simp only;rw[if_pos h2]
theorem Xk {T:List Int}{F:List Rf.Fld}{ms:List Rd.Mth}{want:Int→List (Int × Int)}{arg:Int→Int}{res:Int × Int}{p op:Int}{x:Zt} (h:Cd.wd op=1) (n n':Int) :
  Aa6 T F ms want arg res p op n x=Aa6 T F ms want arg res p op n' x:=by
 have h':¬ (op=0∨op=2∨op=3∨(11≤op∧op≤21)):=by
  intro g;unfold Cd.wd at h;rw[if_pos g]at h;omega
 have e1:Aag F ms res op n=Aag F ms res op n':=by
  unfold Aag;simp only[show op≠17 by omega,show op≠18 by omega,show op≠20 by omega,show op≠21 by omega,if_false]
 have e2:Aal F ms op n=Aal F ms op n':=by
  unfold Aal;simp only[show op≠17 by omega,show op≠19 by omega,show op≠20 by omega,show op≠21 by omega,if_false,false_or]
 unfold Aa6;rw[e1,e2];simp only[show op≠2 by omega,show op≠3 by omega,show op≠16 by omega,if_false]
theorem Hl {T:List Int}{n:Int}:Tr.hasB T n=true↔0≤n∧n<(T.length:Int):=by unfold Tr.hasB;simp
theorem Cz {T:List Int}{t:Int × Int} (h:Tr.plainB T t.1 t.2=true):Tr.Arg T t.1 t.2∧t.1≠4:=by
 unfold Tr.plainB at h;by_cases h1:t.1=1
 ·rw[if_pos h1]at h;exact⟨.inr (.inl ⟨h1,by simpa using h⟩),by omega⟩
 ·rw[if_neg h1]at h;by_cases h3:t.1=3
  ·rw[if_pos h3]at h;exact⟨.inr (.inr (.inr (.inl ⟨h3,Hl.1 h⟩))),by omega⟩
  ·rw[if_neg h3]at h;simp at h
theorem Jq {T:List Int}{isN:Int→Prop}{t:Int × Int} (h:Tr.plainB T t.1 t.2=true):Aaa T isN t:=⟨(Cz h).1,fun g=>absurd g (Cz h).2⟩
theorem Ek {T:List Int}{l:List (Int × Int)} (h:Tr.allPlainB T l=true):∀ t∈l,Tr.plainB T t.1 t.2=true:=fun t ht=>by
 unfold Tr.allPlainB at h;exact List.all_eq_true.1 h t ht
theorem Ee {T:List Int}{n:Int} (h:0≤n∧n<(T.length:Int)):Tr.Arg T 3 n:=.inr (.inr (.inr (.inl ⟨rfl,h⟩)))
theorem Mq {T:List Int}{r:Int × Int} (h:Tr.plainB T r.1 r.2=true∨r=(0,0)):∀ t∈Aau r,Tr.plainB T t.1 t.2=true:=by
 intro t ht;unfold Aau at ht
 split at ht
 ·simp at ht
 ·rename_i h0;obtain rfl:=List.mem_singleton.1 ht;rcases h with h | h
  ·exact h
  ·rw[h]at h0;exact absurd rfl h0
theorem Lx {c base:Int}{own:List (Int × Int)}:∀ (k:Nat),k≤own.length→∀ f∈Rf.ownTo c base own k,f.owner=c∧f.t∈own
 | 0,_=>by simp[Rf.ownTo]
 | k+1,h=>by
  intro f hf;rw[Rf.ownTo]at hf;rcases List.mem_append.1 hf with hf | hf
  ·exact Lx k (by omega) f hf
  ·obtain rfl:=List.mem_singleton.1 hf;exact⟨rfl,Ci (by omega)⟩
theorem Ei:Rf.given.length=7:=rfl
theorem V0 (cs:List Rd.Cls) (j:Nat):(Rf.given++cs).getD (7+j) ⟨0,[]⟩=cs.getD j ⟨0,[]⟩:=by
 rw[List.getD_eq_getElem?_getD,List.getElem?_append_right (by rw[Ei];omega),Ei,← List.getD_eq_getElem?_getD]
 congr 1;omega
theorem Gl (cs:List Rd.Cls) (i:Nat) (h:i<7):((Rf.given++cs).getD i ⟨0,[]⟩).fields=[]:=by
 rw[List.getD_eq_getElem?_getD,List.getElem?_append_left (by rw[Ei];omega)];have:i=0∨i=1∨i=2∨i=3∨i=4∨i=5∨i=6:=by omega
 rcases this with rfl|rfl|rfl|rfl|rfl|rfl|rfl<;>rfl
theorem Ma {T:List Int}{cs:List Rd.Cls} (h:∀ c∈cs,Tr.allPlainB T c.fields=true) (d:Nat):∀ t∈((Rf.given++cs).getD d ⟨0,[]⟩).fields,Tr.plainB T t.1 t.2=true:=by
 by_cases h7:d<7
 ·rw[Gl cs d h7];simp
 ·obtain⟨j,rfl⟩:∃ j,d=7+j:=⟨d-7,by omega⟩;rw[V0];by_cases hj:j<cs.length
  ·exact Ek (h _ (Ci hj))
  ·rw[List.getD_eq_getElem?_getD,List.getElem?_eq_none (by omega)];simp
theorem Km {T:List Int}{cs:List Rd.Cls} (h:∀ c∈cs,Tr.allPlainB T c.fields=true):∀ (j:Nat),∀ f∈Rf.fieldsTo T (Rf.given++cs) j,(7≤f.owner∧f.owner<7+(j:Int))∧Tr.plainB T f.t.1 f.t.2=true
 | 0=>by simp[Rf.fieldsTo]
 | j+1=>by
  intro f hf;rw[Rf.fieldsTo]at hf;rcases List.mem_append.1 hf with hf | hf
  ·obtain⟨a,b⟩:=Km h j f hf;exact⟨by omega,b⟩
  ·unfold Rf.ownOf at hf;obtain⟨a,b⟩:=Lx _ (Nat.le_refl _) f hf;exact⟨by omega,Ma h _ _ b⟩
theorem Il {T:List Int}{cs:List Rd.Cls} (h:∀ c∈cs,Tr.allPlainB T c.fields=true) (c:Int):∀ (d:Nat),∀ t∈Rf.allTo T (Rf.given++cs) c d,Tr.plainB T t.1 t.2=true
 | 0=>by simp[Rf.allTo]
 | d+1=>by
  intro t ht;rw[Rf.allTo]at ht;rcases List.mem_append.1 ht with ht | ht
  ·exact Il h c d t ht
  ·split at ht
   ·exact Ma h d t ht
   ·simp at ht
def Ae2 (c:List Int) (q:Int):Prop:=Cd.begB c q=true∧c.getD q.toNat 0=15
def Ad7 (T:List Int) (m:Rd.Mth) (x:Zt):Prop:=Ab6 T m.locals.toNat m.stack (Ae2 m.code) x
def Abw (cs:List Rd.Cls):List Rf.Fld:=Rf.fieldsTo (Tr.tree cs) (Rf.given++cs) cs.length
def Aco (m:Rd.Mth):Zt:=Ade m.cl m.params m.locals.toNat
def Aca (cs:List Rd.Cls) (ms:List Rd.Mth) (m:Rd.Mth) (p:Nat) (x:Zt):Option Zt :=
 Aa0 m.stack (Aa6 (Tr.tree cs) (Abw cs) ms (fun c=>Rf.all (Tr.tree cs) (Rf.given++cs) c.toNat) (fun q=>Cd.atI m.code (q+1)) m.result (p:Int) (m.code.getD p 0) (Cd.atI m.code ((p:Int)+1)) x)
def Ad6 (cs:List Rd.Cls):List (List (Int × Int)):=(Rf.given++cs).map Rd.Cls.fields
def Aaq (cs:List Rd.Cls) (ms:List Rd.Mth) (m:Rd.Mth) (i:Cd.Ins) (x:Zt):Option Zt :=
 Adc (Tr.tree cs) m.stack (Abo (Ad6 cs) ms m.result i.op i.n) (Abf (Ad6 cs) ms i.op i.n) (Aa2 (Tr.tree cs) (Ad6 cs) i.n) (Acj (Cd.readL m.code) i.n) i.place i.op i.n x
theorem Xi {T:List Int}{m:Rd.Mth}{x:Zt} (h:Ad7 T m x):Aay T x:=⟨fun t ht=>(h.tl t ht).1,fun t ht=>(h.ts t ht).1⟩
theorem Yb {T:List Int}{nf:Int}{ms:List Rd.Mth}{m:Rd.Mth} (g:Aen T nf ms m):Ad7 T m (Aco m):=by
 have h1:=g.own;have h2:=g.rd.lo;have h3:=g.rd.st;refine⟨?_,by simpa[Aco,Ade] using h3.1,?_,by simp[Aco,Ade]⟩
 ·simp only[Aco,Ade,List.length_append,List.length_replicate];omega
 ·intro t ht;simp only[Aco,Ade]at ht;rcases List.mem_append.1 ht with ht | ht
  ·unfold Adt at ht;rcases List.mem_append.1 ht with ht | ht
   ·split at ht
    ·simp at ht
    ·rename_i h255;obtain rfl:=List.mem_singleton.1 ht;exact⟨Ee (Hl.1 (g.cl.resolve_left h255)),fun h=>by simp at h⟩
   ·exact Jq (Ek g.ps t ht)
  ·rw[(List.mem_replicate.1 ht).2];exact Jr _ _
structure Ae3 (T:List Int) (nf:Int) (ms:List Rd.Mth) (m:Rd.Mth) (op n:Int):Prop where
 loc:op=2∨op=3→0≤n∧n<m.locals
 cls:op=15∨op=16∨op=19→0≤n∧n<(T.length:Int)
 fld:op=17∨op=18→0≤n∧n<nf
 mth:op=20∨op=21→0≤n∧n<(ms.length:Int)
 own:op=21→(ms.getD n.toNat ⟨0,0,[],(0,0),0,0,[],[],[]⟩).cl≠255
theorem In {T:List Int}{nf:Int}{ms:List Rd.Mth}{m:Rd.Mth} (g:Aen T nf ms m) {p:Nat} (hp:p∈Cd.places m.code):Ae3 T nf ms m (m.code.getD p 0) (Cd.atI m.code ((p:Int)+1)):=by
 have ha:=g.arg p hp;obtain⟨h25,hw⟩:=El g.unread p hp;unfold Cd.argAt at ha;rw[Ll]at ha;have hpos:Cd.wd (m.code.getD p 0)=2→0≤Cd.atI m.code ((p:Int)+1):=fun h2=>by
  rw[(Iu hw h2).2];exact Hz g.bd.code0 _
 generalize Cd.atI m.code ((p:Int)+1)=n at *;generalize m.code.getD p 0=op at *;have hwd:op=2∨op=3∨(11≤op∧op≤21)→0≤n:=fun h=>hpos (by unfold Cd.wd;rw[if_pos (by omega)]);unfold Cd.argB at ha;refine⟨fun h=>?_,fun h=>?_,fun h=>?_,fun h=>?_,fun h=>?_⟩
 ·rw[if_pos h]at ha;exact⟨hwd (by omega),by simpa using ha⟩
 ·rw[if_neg (by omega),if_neg (by omega),if_pos h]at ha;exact Hl.1 ha
 ·rw[if_neg (by omega),if_neg (by omega),if_neg (by omega),if_pos h]at ha;exact⟨hwd (by omega),by simpa using ha⟩
 ·refine⟨hwd (by omega),?_⟩;rw[if_neg (by omega),if_neg (by omega),if_neg (by omega),if_neg (by omega)]at ha;rcases h with h | h
  ·rw[if_pos h]at ha;simp at ha;exact_mod_cast ha.1
  ·rw[if_neg (by omega),if_pos h]at ha;simp at ha;exact_mod_cast ha.1
 ·have h0:=hwd (by omega);rw[if_neg (by omega),if_neg (by omega),if_neg (by omega),if_neg (by omega),if_neg (by omega),if_pos h]at ha;simp only[Bool.and_eq_true,decide_eq_true_eq,bne_iff_ne,ne_eq,List.length_map]at ha;have e:(List.map Rd.Mth.cl ms).getD n.toNat 0=(ms.getD n.toNat ⟨0,0,[],(0,0),0,0,[],[],[]⟩).cl:=by
   simp only[List.getD_eq_getElem?_getD,List.getElem?_map];have:n.toNat<ms.length:=by omega
   rw[List.getElem?_eq_getElem this];rfl
  rw[e]at ha;exact ha.2
theorem Ju (cs:List Rd.Cls):((Abw cs).length:Int)=(Cd.fieldSum cs:Int):=by
 have:=Cd.fields_eq (Tr.tree cs) cs cs.length (Nat.le_refl _);rw[List.take_length]at this;unfold Abw;rw[this]
theorem Nz {cs:List Rd.Cls}{ms:List Rd.Mth} (k:Ace cs ms) {n:Int} (h:0≤n∧n<(Cd.fieldSum cs:Int)):(0≤((Abw cs).getD n.toNat ⟨0,0,(0,0)⟩).owner∧((Abw cs).getD n.toNat ⟨0,0,(0,0)⟩).owner<((Tr.tree cs).length:Int)) ∧
  Tr.plainB (Tr.tree cs) ((Abw cs).getD n.toNat ⟨0,0,(0,0)⟩).t.1 ((Abw cs).getD n.toNat ⟨0,0,(0,0)⟩).t.2=true:=by
 have hl:=Ju cs;have:=Km k.fl cs.length _ (show (Abw cs).getD n.toNat ⟨0,0,(0,0)⟩∈Abw cs from Ci (by omega));have hT:=Cc cs;exact⟨by omega,this.2⟩
theorem Mx {cs:List Rd.Cls}{ms:List Rd.Mth} (k:Ace cs ms) {m:Rd.Mth}{op n:Int} (hm:m∈ms) (h:Ae3 (Tr.tree cs) (Cd.fieldSum cs:Int) ms m op n):∀ t∈Aag (Abw cs) ms m.result op n,Tr.Arg (Tr.tree cs) t.1 t.2:=by
 have hT:=Cc cs;have g:=k.mt m hm;unfold Aag;intro t ht
 split at ht
 ·simp at ht;rw[ht];exact .inr (.inl ⟨rfl,rfl⟩)
 split at ht
 ·simp at ht;rw[ht];exact .inr (.inl ⟨rfl,rfl⟩)
 split at ht
 ·simp at ht;rw[ht];exact Ee ⟨by simp,by simp;omega⟩
 split at ht
 ·rename_i h17;obtain rfl:=List.mem_singleton.1 ht;exact Ee (Nz k (h.fld (.inl h17))).1
 split at ht
 ·rename_i h18;have:=Nz k (h.fld (.inr h18));simp only[List.mem_cons,List.not_mem_nil,or_false]at ht;rcases ht with rfl | rfl
  ·exact Ee this.1
  ·exact(Cz this.2).1
 split at ht
 ·rename_i h20;have:=h.mth (.inl h20);exact(Cz (Ek (k.mt _ (Ci (show n.toNat<ms.length by omega))).ps t ht)).1
 split at ht
 ·rename_i h21;have h1:=h.mth (.inr h21);have g':=k.mt _ (Ci (d:=⟨0,0,[],(0,0),0,0,[],[],[]⟩) (show n.toNat<ms.length by omega));rcases List.mem_cons.1 ht with rfl | ht
  ·exact Ee (Hl.1 (g'.cl.resolve_left (h.own h21)))
  ·exact(Cz (Ek g'.ps t ht)).1
 split at ht
 ·exact(Cz (Mq g.res t ht)).1
 split at ht
 ·obtain rfl:=List.mem_singleton.1 ht;exact Ee ⟨by simp,by simp;omega⟩
 ·simp at ht
theorem Tf {cs:List Rd.Cls}{ms:List Rd.Mth} (k:Ace cs ms) {m:Rd.Mth}{op n:Int}{isN:Int→Prop} (h:Ae3 (Tr.tree cs) (Cd.fieldSum cs:Int) ms m op n):∀ t∈Aal (Abw cs) ms op n,Aaa (Tr.tree cs) isN t:=by
 unfold Aal;intro t ht
 split at ht
 ·simp at ht;rw[ht];exact⟨.inr (.inl ⟨rfl,rfl⟩),fun h=>by simp at h⟩
 split at ht
 ·simp at ht;rw[ht];exact⟨.inr (.inr (.inl ⟨rfl,rfl⟩)),fun h=>by simp at h⟩
 split at ht
 ·rename_i h17;obtain rfl:=List.mem_singleton.1 ht;exact Jq (Nz k (h.fld (.inl h17))).2
 split at ht
 ·rename_i h19;obtain rfl:=List.mem_singleton.1 ht;exact⟨Ee (h.cls (.inr (.inr h19))),fun h=>by simp at h⟩
 split at ht
 ·rename_i h20;have:=h.mth h20;exact Jq (Mq (k.mt _ (Ci (show n.toNat<ms.length by omega))).res t ht)
 ·simp at ht
theorem Nf {c:List Int} (h:Cd.unread c<0):Cd.readL c=Cd.insts c:=by
 unfold Cd.readL;rw[if_neg (by omega)]
theorem J7 {c:List Int}{q:Int} (h:Cd.begB c q=true):q.toNat∈Cd.places c:=by
 unfold Cd.begB at h;rw[List.any_eq_true]at h;obtain⟨p,hp,hn⟩:=h;have:(p:Int)=q:=by simpa using hn
 rw[← this,Int.toNat_natCast];exact hp
theorem Ue {c:List Int} (hu:Cd.unread c<0) {q:Int} (h:Ae2 c q) (n:Int):Acj (Cd.readL c) n q=true↔Cd.atI c (q+1)=n:=by
 rw[Nf hu];have hb:=Ew h.1;have h1:(Cd.findAt q (Cd.insts c)).isSome=true:=by rw[Cd.find_beg];exact h.1
 have h2:=(Cd.find_at c q (Cd.places c) h1).1;have h3:=El hu _ (J7 h.1);rw[h.2]at h3;have hw:Cd.wd (c.getD q.toNat 0)=2:=by rw[h.2];rfl
 have h4:=Iu (c:=c) (p:=q.toNat) (by rw[h.2];exact h3.2) hw;unfold Acj;rw[h1];unfold Cd.insts;rw[h2,h4.1];have e:(Cd.insAt c q.toNat).op=15:=h.2;have e2:((q.toNat:Nat):Int)=q:=by omega
 rw[e,e2]
 simp
theorem Y9 {cs:List Rd.Cls}{ms:List Rd.Mth} (k:Ace cs ms) {m:Rd.Mth} (hm:m∈ms) {p:Nat} (hp:p∈Cd.places m.code) {x y:Zt} (hx:Ad7 (Tr.tree cs) m x) (h:Aca cs ms m p x=some y):Ad7 (Tr.tree cs) m y:=by
 have g:=k.mt m hm;have hn:=In g hp;unfold Aca at h;rw[Lh]at h;refine V2 _ _ _ _ _ _ _ _ _ hx (Tf k hn) (fun h2=>?_) (fun h15=>?_) (fun h16=>hn.cls (by omega)) h
 ·have:=hn.loc (.inl h2);have:=g.rd.lo;omega
 ·have hb:Cd.begB m.code (p:Int)=true:=by
   unfold Cd.begB;rw[List.any_eq_true];exact⟨p,hp,by simp⟩
  have:=Ew hb;have:=g.bd.code;exact⟨.inr (.inr (.inr (.inr ⟨rfl,by simp,by simp;omega⟩))),fun _=>⟨hb,by simpa using h15⟩⟩
theorem Ox {cs:List Rd.Cls}{ms:List Rd.Mth} (k:Ace cs ms) {m:Rd.Mth} (hm:m∈ms) {p:Nat} (hp:p∈Cd.places m.code) {x:Zt} (hx:Ad7 (Tr.tree cs) m x):Aaq cs ms m (Cd.insAt m.code p) x=Aca cs ms m p x:=by
 have g:=k.mt m hm;have hT:=Cc cs;have hfl:=Ju cs;obtain⟨h25,hw⟩:=El g.unread p hp;have hn:=In g hp;have e0:(Cd.insAt m.code p).op=m.code.getD p 0:=rfl;have e1:(Cd.insAt m.code p).place=(p:Int):=rfl
 -- the number as the program has it
 have hN:Aca cs ms m p x=Aa0 m.stack (Aa6 (Tr.tree cs) (Abw cs) ms (fun c=>Rf.all (Tr.tree cs) (Rf.given++cs) c.toNat) (fun q=>Cd.atI m.code (q+1)) m.result (p:Int) (m.code.getD p 0) (Cd.insAt m.code p).n x):=by
  unfold Aca;have hwb:=Cd.wd_bd (m.code.getD p 0);by_cases h2:Cd.wd (m.code.getD p 0)=2
  ·rw[(Iu hw h2).1]
  ·rw[Xk (show Cd.wd (m.code.getD p 0)=1 by omega)]
 have hnn:Ae3 (Tr.tree cs) (Cd.fieldSum cs:Int) ms m (m.code.getD p 0) (Cd.insAt m.code p).n:=by
  have hwb:=Cd.wd_bd (m.code.getD p 0);by_cases h2:Cd.wd (m.code.getD p 0)=2
  ·rw[(Iu hw h2).1];exact hn
  ·have h':¬ (m.code.getD p 0=0∨m.code.getD p 0=2∨m.code.getD p 0=3∨(11≤m.code.getD p 0∧m.code.getD p 0≤21)):=by
    intro gg;unfold Cd.wd at h2;rw[if_pos gg]at h2;exact h2 rfl
   exact⟨fun h=>by omega,fun h=>by omega,fun h=>by omega,fun h=>by omega,fun h=>by omega⟩
 have hpos:0≤(Cd.insAt m.code p).n:=by
  unfold Cd.insAt;simp only
  split
  ·exact Hz g.bd.code0 _
  ·omega
 obtain⟨n,en⟩:∃ n:Nat,(Cd.insAt m.code p).n=(n:Int):=⟨(Cd.insAt m.code p).n.toNat,by omega⟩;rw[hN];unfold Aaq;rw[e0,e1,en];rw[en]at hnn;clear hN hn e0 e1 en hpos;generalize hop:m.code.getD p 0=op at *;have hl7:7≤(Rf.given++cs).length:=by simp[Ei]
 have hlc:(Rf.given++cs).length-7=cs.length:=by simp[Ei]
 have hgl:(Rf.given++cs).length=7+cs.length:=by simp[Ei]
 have hF:Abw cs=Rf.fieldsTo (Tr.tree cs) (Rf.given++cs) ((Rf.given++cs).length-7):=by rw[hlc];rfl
 have t1:Abo (Ad6 cs) ms m.result op (n:Int)=Aag (Abw cs) ms m.result op (n:Int):=by
  rw[hF];refine Vz _ _ hl7 (Gl cs) _ _ _ _ (fun h=>?_);have:=hnn.fld h;rw[← hF];omega
 have t2:Abf (Ad6 cs) ms op (n:Int)=Aal (Abw cs) ms op (n:Int):=by
  rw[hF];refine Ts _ _ hl7 (Gl cs) _ _ _ (fun h=>?_);have:=hnn.fld (.inl h);rw[← hF];omega
 rw[Lh,t1,t2,← U8 k.ok (isNew:=Acj (Cd.readL m.code) (n:Int)) (want:=Rf.all (Tr.tree cs) (Rf.given++cs) (n:Int).toNat)]
 ·-- only Init wants the fields
  by_cases h16:op=16
  ·have:=hnn.cls (by omega);rw[show Ad6 cs=(Rf.given++cs).map Rd.Cls.fields from rfl,Pj k.ok (Rf.given++cs) (by omega) (by omega),Int.toNat_natCast]
  ·unfold Adc Aet;simp only[if_neg h16]
 ·exact fun t ht=>(hx.ts t ht).1
 ·exact Mx k hm hnn
 ·exact fun t ht=>(Cz (Il k.fl _ _ t ht)).1
 ·exact Ka _ _ _ _
 ·exact hx.hi
 ·intro h;have:=hnn.loc h;have:=hx.lo;have:=g.rd.lo;omega
 ·intro _ t ht h4;exact Ue g.unread ((hx.ts t ht).2 h4) _
structure Adp (cs:List Rd.Cls) (ms:List Rd.Mth) (f:RFl) (m:RMV) (y:Rf.Mth) (w:World):Prop where
 k:Ace cs ms
 ok:f.ok w
 l:f.l.map Prod.fst=Rf.given++cs
 eq:f.ms.map (fun z=>z.1.m)=ms
 mem:y.m∈ms
 is:m.is y w f.bb
theorem Adp.below {cs:List Rd.Cls}{ms:List Rd.Mth}{f:RFl}{m:RMV}{y:Rf.Mth}{w w':World} (h:Adp cs ms f m y w) (hb:Below w.heap.size w w'):Adp cs ms f m y w':=⟨h.k,h.ok.below hb,h.l,h.eq,h.mem,h.is.below hb⟩
theorem Adp.T {cs:List Rd.Cls}{ms:List Rd.Mth}{f:RFl}{m:RMV}{y:Rf.Mth}{w:World} (h:Adp cs ms f m y w):f.T=Tr.tree cs:=(Cu f.l cs h.l).1
theorem Adp.F {cs:List Rd.Cls}{ms:List Rd.Mth}{f:RFl}{m:RMV}{y:Rf.Mth}{w:World} (h:Adp cs ms f m y w):f.fields=Abw cs:=by
 obtain⟨eT0,_,eL⟩:=Cu f.l cs h.l;unfold RFl.fields Abw;rw[eT0,h.l,eL,show 7+cs.length-7=cs.length by omega]
theorem Adp.size {cs:List Rd.Cls}{ms:List Rd.Mth}{f:RFl}{m:RMV}{y:Rf.Mth}{w:World} (h:Adp cs ms f m y w):m.code.size=y.m.code.length:=by rw[← h.is.code,Cq]
theorem P5 {cs:List Rd.Cls}{ms:List Rd.Mth}{f:RFl}{m:RMV}{y:Rf.Mth}{w:World} (h:Adp cs ms f m y w) :
  Calls Tryz.prog 98 #[m.val] w fun e w''=>∃ u:FrV,e=.returned u.val∧u.is (Aco y.m) w''∧Below w.heap.size w w'':=by
 have g:=h.k.mt y.m h.mem;have hlo:=g.rd.lo;have:=Si m y.m.params y.m.locals.toNat w (by rw[h.is.lo];omega) (by omega) (TyR.of_tys h.is.ps) (by have:=g.bd.ps;omega);rw[h.is.cl]at this;exact this
theorem Ri {cs:List Rd.Cls}{ms:List Rd.Mth}{f:RFl}{m:RMV}{y:Rf.Mth}{w:World} (h:Adp cs ms f m y w) (q:Nat) (v:FrV) (x:Zt) (hq:q∈Cd.places y.m.code) (hv:v.is x w) (hx:Ad7 (Tr.tree cs) y.m x) :
  Calls Tryz.prog 139 #[f.val,m.val,.int .i64 (q:Int),v.val] w fun e w''=>∃ u:FrV,e=.returned (.tuple #[u.val,.bool (Aca cs ms y.m q x).isSome])∧(∀ z,Aca cs ms y.m q x=some z→u.is z w'')∧Below w.heap.size w w'':=by
 have g:=h.k.mt y.m h.mem;have hm:=h.is;have eT:=h.T;have eF:=h.F;have hms:=h.eq;have hl:=h.l;have ec:=h.is.code;have esz:=h.size;have h120:=g.bd.code;have hs:m.code.size≤100000:=by omega
 have hfl:=Ju cs;have hTl:=Cc cs;have eL:=(Cu f.l cs h.l).2.2;have eml:f.ms.length=ms.length:=by rw[← hms];simp
 have er:(m.r1,m.r2)=y.m.result:=by rw[hm.r1,hm.r2]
 have hpl:∀ z∈f.ms,z.1.m.params.length≤1000:=fun z hz=>by
  have:z.1.m∈ms:=by rw[← hms];exact List.mem_map.2 ⟨z,hz,rfl⟩
  have:=(h.k.mt _ this).bd.ps;omega
 have hn:=In g hq;have hql:q<y.m.code.length:=Mn hq;have hlo:=g.rd.lo;have hst:=g.rd.st;have hMv:=fun w' (hb:Below w.heap.size w w')=>Rv f m q v x w' (h.ok.below hb) (by omega) hs (hv.below hb) (by rw[hx.lo];omega) (by have:=hx.hi;omega)
  (fun t ht h4=>by have:=Ew ((hx.ts t ht).2 h4).1;omega) hpl (by rw[ec,Ha,ec];intro h;have:=hn.fld h;rw[eF];omega) (by rw[ec,Ha,ec];intro h;have:=hn.mth h;omega)
  (by rw[ec,Ha,ec];intro h;have:=hn.loc h;have:=hx.lo;omega) (by rw[ec,Ha,ec];intro h;have:=hn.cls (.inr (.inl h));omega)
 have hR:=Un f m q v _ w hMv;have e:Aa0 m.st (Aa6 f.T f.fields (f.ms.map fun x=>x.1.m) (fun c=>Rf.all f.T (f.l.map Prod.fst) c.toNat) (fun q=>Rf.at' m.code.data.toList (q+1)) (m.r1,m.r2) (q:Int) ((An m.code).getD q 0) (Rf.at' m.code.data.toList ((q:Int)+1)) x)=Aca cs ms y.m q x:=by
  unfold Aca;simp only[Ha];rw[hm.st,eT,eF,hms,hl,er,ec]
 rw[e]at hR;exact hR
def Ad3 (lcs:List (Rd.Cls × Value)):List (Value × List (Int × Int)):=List.replicate 7 (.slice none 0 0,[])++lcs.map fun p=>(p.2,p.1.fields)
theorem Yv (lcs:List (Rd.Cls × Value)):(Ad3 lcs).map Prod.fst=Tr.fvals lcs:=by
 unfold Ad3 Tr.fvals;rw[List.map_append,List.map_replicate,List.map_map];rfl
theorem Yw (lcs:List (Rd.Cls × Value)):(Ad3 lcs).map Prod.snd=Ad6 (lcs.map Prod.fst):=by
 unfold Ad3 Ad6;rw[List.map_append,List.map_replicate,List.map_map,List.map_append,List.map_map];rfl
theorem Nq (lcs:List (Rd.Cls × Value)):(Ad3 lcs).length=7+lcs.length:=by unfold Ad3;simp;omega
theorem Yf {c:List Int} (h:∀ x∈c,x≤255) (i:Nat):c.getD i 0≤255:=by
 by_cases hi:i<c.length
 ·exact h _ (Ci hi)
 ·rw[List.getD_eq_getElem?_getD,List.getElem?_eq_none (by omega)];simp
structure Ae9 (cs:List Rd.Cls) (ms:List Rd.Mth) (lcs:List (Rd.Cls × Value)) (lms:List (Rd.Mth × MthV)) (b:PBd) (m:Rd.Mth) (bm:Nat) (w:World):Prop where
 k:Ace cs ms
 ec:lcs.map Prod.fst=cs
 em:lms.map Prod.fst=ms
 mem:m∈ms
 T:b.T=Tr.tree cs
 L:b.L=Cd.readL m.code
 ru:Ru b w 0 lms (Ad3 lcs)
 is:(⟨b.cl,b.nm,b.pa,b.pl,b.pc,b.r1,b.r2,b.lo,b.st,b.ca,b.cn,b.cc,b.ha,b.hl,b.hc,b.ma,b.ml,b.mc⟩:PM).is m w bm
theorem Od {cs:List Rd.Cls}{ms:List Rd.Mth}{lcs:List (Rd.Cls × Value)}{lms:List (Rd.Mth × MthV)}{b:PBd}{m:Rd.Mth}{bm:Nat}{w:World} (h:Ae9 cs ms lcs lms b m bm w) (p:Nat) (v:FrV) (x:Zt) (hp:p∈Cd.places m.code) (hv:v.is x w) (hx:Ad7 (Tr.tree cs) m x) :
  Calls Tryz.prog 170 #[b.val,.agg #[.int .i64 (p:Int),.int .i64 (Cd.insAt m.code p).op,.int .i64 (Cd.insAt m.code p).n],v.val] w fun e w''=>∃ u:FrV,e=.returned (.tuple #[u.val,.bool (Aaq cs ms m (Cd.insAt m.code p) x).isSome])∧(∀ y,Aaq cs ms m (Cd.insAt m.code p) x=some y→u.is y w'')∧Below w.heap.size w w'':=by
 have g:=h.k.mt m h.mem;obtain⟨h25,hw⟩:=El g.unread p hp;have hn:=In g hp;have hlo:=g.rd.lo;have hst:=g.rd.st;have hpos:0≤(Cd.insAt m.code p).n:=by
  unfold Cd.insAt;simp only
  split
  ·exact Hz g.bd.code0 _
  ·omega
 have hN2:(Cd.insAt m.code p).op=20∨(Cd.insAt m.code p).op=21→(Cd.insAt m.code p).n.toNat<lms.length:=by
  intro ho;have ho':m.code.getD p 0=20∨m.code.getD p 0=21:=ho;have h2:Cd.wd (m.code.getD p 0)=2:=by unfold Cd.wd;rw[if_pos (by omega)]
  have:=hn.mth ho';rw[(Iu hw h2).1];have:ms.length=lms.length:=by rw[← h.em];simp
  omega
 have hbig:(Cd.insAt m.code p).n.toNat≤100000:=by
  have:(Cd.insAt m.code p).n≤255:=by
   unfold Cd.insAt;simp only
   split
   ·exact Yf g.rd.c255 _
   ·omega
  omega
 have hps:∀ q∈lms,q.1.params.length≤1000:=fun q hq=>by
  have:q.1∈ms:=by rw[← h.em];exact List.mem_map.2 ⟨q,hq,rfl⟩
  have:=(h.k.mt _ this).bd.ps;omega
 have:=Po b 0 lms (Ad3 lcs) (p:Int) (Cd.insAt m.code p).op (Cd.insAt m.code p).n.toNat v x w h.ru hv hbig (by rw[hx.lo];omega) (by have:=hx.hi;omega) hps hN2;have e1:=h.is.st;have e2:=h.is.r1;have e3:=h.is.r2;simp only at e1 e2 e3;rw[show (((Cd.insAt m.code p).n.toNat:Nat):Int)=(Cd.insAt m.code p).n by omega,Yw,h.em,h.ec,h.T,h.L,e1,show (b.r1,b.r2)=m.result by rw[e2,e3]]at this;exact this
end Go.Proofs.YtcefiamkoincoaaGreat
