/- a part of the proof -/
import Derived.Laws.MakeOwn
import Derived.Test.YtcefiamkoincoaaGreatPk23
set_option maxRecDepth 100000
set_option maxHeartbeats 40000000
set_option linter.unusedVariables false
set_option linter.unusedSimpArgs false
namespace Go.Proofs.YtcefiamkoincoaaGreat
open Go.RowKit
def Aeg (T:List Int) (hi:Int) (op n nxt:Int) (RB:Option Zt) (s:Zv):Zv :=
 match RB with
 | none=>s.stop
 | some y=>if Abv op=true then Aaf T hi y nxt (if Aad op=true then Abl T hi y n s else s) else (if Aad op=true then Abl T hi y n s else s)
theorem Sw (T:List Int) (hi:Int) (hs:List Rd.Hnd) (bh:Cd.Ins→Zt→Option Zt) (i:Cd.Ins) (x:Zt) (s:Zv):Acz T hi hs bh i x s=Aeg T hi i.op i.n (i.place+(Cd.wd i.op:Int)) (bh i x) (Aae T hi i.place x.locals hs s):=by
 unfold Acz Aeg;cases bh i x<;>rfl
theorem Lk {w w':World}{k1 k2 k3:Nat}{u0 u1 u2 u3 u4 u5 u6 u7 u8 u9 u10 u11 u12 u13 u14 u15 u16 u17 u18 u19:Value} (l1:k1<w.heap.size) (l2:k2<w.heap.size) (l3:k3<w.heap.size) (h:w.cell? ⟨k1,13,none⟩=some u0∧w.cell? ⟨k1,14,none⟩=some u1∧w.cell? ⟨k1,15,none⟩=some u2∧w.cell? ⟨k1,16,none⟩=some u3∧w.cell? ⟨k1,17,none⟩=some u4∧w.cell? ⟨k1,18,none⟩=some u5∧w.cell? ⟨k1,19,none⟩=some u6∧w.cell? ⟨k1,20,none⟩=some u7∧w.cell? ⟨k1,21,none⟩=some u8∧w.cell? ⟨k1,22,none⟩=some u9∧w.cell? ⟨k1,23,none⟩=some u10∧w.cell? ⟨k1,24,none⟩=some u11∧w.cell? ⟨k1,25,none⟩=some u12∧w.cell? ⟨k1,26,none⟩=some u13∧w.cell? ⟨k1,27,none⟩=some u14∧w.cell? ⟨k2,0,none⟩=some u15∧w.cell? ⟨k2,1,none⟩=some u16∧w.cell? ⟨k2,2,none⟩=some u17∧w.cell? ⟨k3,0,none⟩=some u18∧w.cell? ⟨k3,1,none⟩=some u19) (hb:Below w.heap.size w w') :
  w'.cell? ⟨k1,13,none⟩=some u0∧w'.cell? ⟨k1,14,none⟩=some u1∧w'.cell? ⟨k1,15,none⟩=some u2∧w'.cell? ⟨k1,16,none⟩=some u3∧w'.cell? ⟨k1,17,none⟩=some u4∧w'.cell? ⟨k1,18,none⟩=some u5∧w'.cell? ⟨k1,19,none⟩=some u6∧w'.cell? ⟨k1,20,none⟩=some u7∧w'.cell? ⟨k1,21,none⟩=some u8∧w'.cell? ⟨k1,22,none⟩=some u9∧w'.cell? ⟨k1,23,none⟩=some u10∧w'.cell? ⟨k1,24,none⟩=some u11∧w'.cell? ⟨k1,25,none⟩=some u12∧w'.cell? ⟨k1,26,none⟩=some u13∧w'.cell? ⟨k1,27,none⟩=some u14∧w'.cell? ⟨k2,0,none⟩=some u15∧w'.cell? ⟨k2,1,none⟩=some u16∧w'.cell? ⟨k2,2,none⟩=some u17∧w'.cell? ⟨k3,0,none⟩=some u18∧w'.cell? ⟨k3,1,none⟩=some u19 :=
 ⟨QC hb l1 h.1,QC hb l1 h.2.1,QC hb l1 h.2.2.1,QC hb l1 h.2.2.2.1,QC hb l1 h.2.2.2.2.1,QC hb l1 h.2.2.2.2.2.1,QC hb l1 h.2.2.2.2.2.2.1,QC hb l1 h.2.2.2.2.2.2.2.1,QC hb l1 h.2.2.2.2.2.2.2.2.1,QC hb l1 h.2.2.2.2.2.2.2.2.2.1,QC hb l1 h.2.2.2.2.2.2.2.2.2.2.1,QC hb l1 h.2.2.2.2.2.2.2.2.2.2.2.1,QC hb l1 h.2.2.2.2.2.2.2.2.2.2.2.2.1,QC hb l1 h.2.2.2.2.2.2.2.2.2.2.2.2.2.1,QC hb l1 h.2.2.2.2.2.2.2.2.2.2.2.2.2.2.1,QC hb l2 h.2.2.2.2.2.2.2.2.2.2.2.2.2.2.2.1,QC hb l2 h.2.2.2.2.2.2.2.2.2.2.2.2.2.2.2.2.1,QC hb l2 h.2.2.2.2.2.2.2.2.2.2.2.2.2.2.2.2.2.1,QC hb l3 h.2.2.2.2.2.2.2.2.2.2.2.2.2.2.2.2.2.2.1,QC hb l3 h.2.2.2.2.2.2.2.2.2.2.2.2.2.2.2.2.2.2.2⟩
theorem Ug (b:PBd) (S G gc:Nat) (p:Nat) (op n:Int) (s s1:Zv) (RB:Option Zt) (v:FrV) (w:World) (hl:b.T.length≤1000) (hT:∀ w',Lw S G w w'→TreeIn w' b.tg b.T) (hp:p≤100000) (h:LsAt w S G b gc s)
  (hH:∀ w',Below w.heap.size w w'→Calls Tryz.prog 169 #[.pointer (some ⟨S,0,none⟩),.int .i64 (p:Int),v.val] w' fun e w''=>e=.returned (.tuple #[])∧LsAt w'' S G b gc s1∧Lw S G w' w'')
  (hBh:∀ w',Lw S G w w'→Calls Tryz.prog 170 #[b.val,.agg #[.int .i64 (p:Int),.int .i64 op,.int .i64 n],v.val] w' fun e w''=>∃ u:FrV,e=.returned (.tuple #[u.val,.bool RB.isSome])∧(∀ y,RB=some y→u.is y w'')∧Below w'.heap.size w' w'') :
  Calls Tryz.prog 127 #[.pointer (some ⟨S,0,none⟩),.agg #[.int .i64 (p:Int),.int .i64 op,.int .i64 n],v.val] w fun e w'=>e=.returned (.tuple #[])∧LsAt w' S G b gc (Aeg b.T b.st op n ((p:Int)+(Cd.wd op:Int)) RB s1)∧Lw S G w w':=by
 have hJ:=fun u y q s' w' (k:Lw S G w w') h' hu=>Me b S G gc s' u y q w' hl (hT w' k) h' hu;have hAr:=fun u y q s' w' (k:Lw S G w w') h' hu=>Hp b S G gc s' u y q w' hl (hT w' k) h' hu;have hNx:=fun w'=>Mv p op n w' hp;have hTN:=fun w'=>Pd op w';have hGN:=fun w'=>Rg op w';have hSlt:S<w.heap.size:=lt_of_block h.blk;have hGlt:G<w.heap.size:=(h.free 0).2;have ewd:((p:Int)+(Cd.wd op:Int))=((p+Cd.wd op:Nat):Int):=by omega
 rw[ewd];generalize p+Cd.wd op=nxt at *;generalize hR:Aeg b.T b.st op n (nxt:Int) RB s1=R;unfold Aeg at hR;generalize Aad op=J at *;generalize Abv op=GO at *;obtain⟨la,ln,lc,sa,sn,sc⟩:=v;simp only[PBd.val,FrV.val]at hH hBh ⊢;have HR:=Ac hR;have HH:=Ac hH;have HBH:=Ac hBh;have HJ:=Ac hJ;have HAR:=Ac hAr;have HNX:=Ac hNx;have HTN:=Ac hTN;have HGN:=Ac hGN;clear hR hH hBh hJ hAr hNx hTN hGN hT hl h;have hB0:=Ak w (O17 (p:Int) op n) (O27 la ln lc sa sn sc);have I0:=Ah w (O17 (p:Int) op n) (O27 la ln lc sa sn sc);have A0:=Ag w (O17 (p:Int) op n) (O27 la ln lc sa sn sc);have i0:=Ab I0 0;obtain⟨a0,a1⟩:=cl2 A0;simp at i0 a0 a1;go_enter Tryz.func127,Tryz.ntmps127;go_wp2_with fail
 refine(Aa HH _ hB0).mono ?_;rintro e w1 ⟨rfl,L1,K1⟩;have K1':=(Lw.of_below (S:=S) (G:=G) hB0).trans K1;have CI1:=K1.stay I0 (by omega) (by omega);have CA1:=K1.stay A0 (by omega) (by omega);have lS:=lt_of_block L1.blk;have lI:=lt_of_block CI1;have lA:=lt_of_block CA1;have r0:w1.cell? ⟨S,13,none⟩=some (.slice b.fa1 b.fl1 b.fc1):=(Ab L1.blk 13).trans rfl;have r1:w1.cell? ⟨S,14,none⟩=some (.slice b.fa2 b.fl2 b.fc2):=(Ab L1.blk 14).trans rfl;have r2:w1.cell? ⟨S,15,none⟩=some (.slice (some ⟨b.tg,0,none⟩) b.T.length b.tc):=(Ab L1.blk 15).trans rfl;have r3:w1.cell? ⟨S,16,none⟩=some (.slice b.ya b.yn b.yc):=(Ab L1.blk 16).trans rfl;have r4:w1.cell? ⟨S,17,none⟩=some (.int .i64 b.cl):=(Ab L1.blk 17).trans rfl;have r5:w1.cell? ⟨S,18,none⟩=some (.int .i64 b.nm):=(Ab L1.blk 18).trans rfl;have r6:w1.cell? ⟨S,19,none⟩=some (.slice b.pa b.pl b.pc):=(Ab L1.blk 19).trans rfl;have r7:w1.cell? ⟨S,20,none⟩=some (.int .i64 b.r1):=(Ab L1.blk 20).trans rfl;have r8:w1.cell? ⟨S,21,none⟩=some (.int .i64 b.r2):=(Ab L1.blk 21).trans rfl;have r9:w1.cell? ⟨S,22,none⟩=some (.int .i64 b.lo):=(Ab L1.blk 22).trans rfl;have r10:w1.cell? ⟨S,23,none⟩=some (.int .i64 b.st):=(Ab L1.blk 23).trans rfl;have r11:w1.cell? ⟨S,24,none⟩=some (.slice b.ca b.cn b.cc):=(Ab L1.blk 24).trans rfl;have r12:w1.cell? ⟨S,25,none⟩=some (.slice b.ha b.hl b.hc):=(Ab L1.blk 25).trans rfl;have r13:w1.cell? ⟨S,26,none⟩=some (.slice b.ma b.ml b.mc):=(Ab L1.blk 26).trans rfl;have r14:w1.cell? ⟨S,27,none⟩=some (.slice b.la b.L.length b.lc):=(Ab L1.blk 27).trans rfl;have m0:w1.cell? ⟨w.heap.size,0,none⟩=some (.int .i64 (p:Int)):=(Ab CI1 0).trans rfl;have m1:w1.cell? ⟨w.heap.size,1,none⟩=some (.int .i64 op):=(Ab CI1 1).trans rfl;have m2:w1.cell? ⟨w.heap.size,2,none⟩=some (.int .i64 n):=(Ab CI1 2).trans rfl;have y0:w1.cell? ⟨w.heap.size+1,0,none⟩=some (.slice la ln lc):=(Ab CA1 0).trans rfl;have y1:w1.cell? ⟨w.heap.size+1,1,none⟩=some (.slice sa sn sc):=(Ab CA1 1).trans rfl;have hT1:=K1';clear I0 A0 hB0 K1 i0 a0 a1
 go_upto_region 2 with fail
 go_cut [6,7] from 8 (fun s6 s7 wx=>∃ (yb:Nat) (u:FrV),s6=.pointer (some ⟨yb,0,none⟩)∧s7=.bool RB.isSome∧wx.heap[yb]?=some (O27 u.la u.ln u.lc u.sa u.sn u.sc)∧w.heap.size+1<yb∧(∀ y,RB=some y→u.is y wx)∧Below w1.heap.size w1 wx)
 case first =>
  have hF20:w1.drew.cell? ⟨S,13,none⟩=some (.slice b.fa1 b.fl1 b.fc1)∧w1.drew.cell? ⟨S,14,none⟩=some (.slice b.fa2 b.fl2 b.fc2)∧w1.drew.cell? ⟨S,15,none⟩=some (.slice (some ⟨b.tg,0,none⟩) b.T.length b.tc)∧w1.drew.cell? ⟨S,16,none⟩=some (.slice b.ya b.yn b.yc)∧w1.drew.cell? ⟨S,17,none⟩=some (.int .i64 b.cl)∧w1.drew.cell? ⟨S,18,none⟩=some (.int .i64 b.nm)∧w1.drew.cell? ⟨S,19,none⟩=some (.slice b.pa b.pl b.pc)∧w1.drew.cell? ⟨S,20,none⟩=some (.int .i64 b.r1)∧w1.drew.cell? ⟨S,21,none⟩=some (.int .i64 b.r2)∧w1.drew.cell? ⟨S,22,none⟩=some (.int .i64 b.lo)∧w1.drew.cell? ⟨S,23,none⟩=some (.int .i64 b.st)∧w1.drew.cell? ⟨S,24,none⟩=some (.slice b.ca b.cn b.cc)∧w1.drew.cell? ⟨S,25,none⟩=some (.slice b.ha b.hl b.hc)∧w1.drew.cell? ⟨S,26,none⟩=some (.slice b.ma b.ml b.mc)∧w1.drew.cell? ⟨S,27,none⟩=some (.slice b.la b.L.length b.lc)∧w1.drew.cell? ⟨w.heap.size,0,none⟩=some (.int .i64 (p:Int))∧w1.drew.cell? ⟨w.heap.size,1,none⟩=some (.int .i64 op)∧w1.drew.cell? ⟨w.heap.size,2,none⟩=some (.int .i64 n)∧w1.drew.cell? ⟨w.heap.size+1,0,none⟩=some (.slice la ln lc)∧w1.drew.cell? ⟨w.heap.size+1,1,none⟩=some (.slice sa sn sc):=⟨r0,r1,r2,r3,r4,r5,r6,r7,r8,r9,r10,r11,r12,r13,r14,m0,m1,m2,y0,y1⟩;have hBZ:Below w1.drew.heap.size w1.drew (w1.alloc (O27 none 0 0 none 0 0)).drew:=⟨rfl,rfl,rfl,(show w1.heap.size≤(w1.alloc (O27 none 0 0 none 0 0)).heap.size by simp),fun k hk=>(((Below.refl _ w1).alloc (Nat.le_refl _) (O27 none 0 0 none 0 0)).block k hk)⟩;have lZ:w1.drew.heap.size≤(w1.alloc (O27 none 0 0 none 0 0)).drew.heap.size:=hBZ.size;have Z0:(w1.alloc (O27 none 0 0 none 0 0)).drew.heap[w1.heap.size]?=some (O27 none 0 0 none 0 0):=Ad w1 _;have hd1:Below w1.heap.size w1 w1.drew:=(Below.refl _ _).drew;have hz1:Below w1.heap.size w1 (w1.alloc (O27 none 0 0 none 0 0)).drew:=hd1.trans hBZ;replace lS:S<w1.drew.heap.size:=lS;replace lI:w.heap.size<w1.drew.heap.size:=lI;replace lA:w.heap.size+1<w1.drew.heap.size:=lA;have HB1:=Ac (Aa HBH w1.drew (K1'.trans (Lw.of_below hd1)));have HB2:=Ac (Aa HBH (w1.alloc (O27 none 0 0 none 0 0)).drew (K1'.trans (Lw.of_below hz1)));go_wp2
  go_region_held3 (fun w'=>w'.cell? ⟨S,13,none⟩=some (.slice b.fa1 b.fl1 b.fc1)∧w'.cell? ⟨S,14,none⟩=some (.slice b.fa2 b.fl2 b.fc2)∧w'.cell? ⟨S,15,none⟩=some (.slice (some ⟨b.tg,0,none⟩) b.T.length b.tc)∧w'.cell? ⟨S,16,none⟩=some (.slice b.ya b.yn b.yc)∧w'.cell? ⟨S,17,none⟩=some (.int .i64 b.cl)∧w'.cell? ⟨S,18,none⟩=some (.int .i64 b.nm)∧w'.cell? ⟨S,19,none⟩=some (.slice b.pa b.pl b.pc)∧w'.cell? ⟨S,20,none⟩=some (.int .i64 b.r1)∧w'.cell? ⟨S,21,none⟩=some (.int .i64 b.r2)∧w'.cell? ⟨S,22,none⟩=some (.int .i64 b.lo)∧w'.cell? ⟨S,23,none⟩=some (.int .i64 b.st)∧w'.cell? ⟨S,24,none⟩=some (.slice b.ca b.cn b.cc)∧w'.cell? ⟨S,25,none⟩=some (.slice b.ha b.hl b.hc)∧w'.cell? ⟨S,26,none⟩=some (.slice b.ma b.ml b.mc)∧w'.cell? ⟨S,27,none⟩=some (.slice b.la b.L.length b.lc)∧w'.cell? ⟨w.heap.size,0,none⟩=some (.int .i64 (p:Int))∧w'.cell? ⟨w.heap.size,1,none⟩=some (.int .i64 op)∧w'.cell? ⟨w.heap.size,2,none⟩=some (.int .i64 n)∧w'.cell? ⟨w.heap.size+1,0,none⟩=some (.slice la ln lc)∧w'.cell? ⟨w.heap.size+1,1,none⟩=some (.slice sa sn sc))
   (first | (with_reducible exact hF20) | (with_reducible exact Lk lS lI lA hF20 hb7) | (with_reducible exact Lk lS lI lA hF20 (hb7.alloc hb7.size _)) | (with_reducible exact Lk lS lI lA hF20 hBZ) | (with_reducible exact Lk lS lI lA hF20 (hBZ.trans (hb7.mono lZ))) | (with_reducible exact Lk lS lI lA hF20 ((hBZ.trans (hb7.mono lZ)).setCell (Nat.le_refl _) _)) | (with_reducible exact Lk lS lI lA hF20 (((hBZ.trans (hb7.mono lZ)).setCell (Nat.le_refl _) _).setCell (Nat.le_refl _) _)))
   (first | (go_at_call 170;refine(Aa HB1).mono ?_;rintro e w7 ⟨u,rfl,hu,hb7⟩;obtain⟨ua,un,uc,va,vn,vc⟩:=u;simp only[FrV.val]) | (go_at_call 170;refine(Aa HB2).mono ?_;rintro e w7 ⟨u,rfl,hu,hb7⟩;obtain⟨ua,un,uc,va,vn,vc⟩:=u;simp only[FrV.val];have Z7:=stay hb7 Z0;have z0':=Ab Z7 0;have z1':=Ab Z7 1;have q0':=Ae Z7 0;have q1':=Ae Z7 1;simp at z0' z1'))
  all_goals
   go_wp2
   go_meet
  ·exact⟨_,⟨ua,un,uc,va,vn,vc⟩,rfl,rfl,Ad w7 _,Nat.lt_of_lt_of_le lA hb7.size,fun y hy=>(hu y hy).below (QN _),(hd1.trans hb7).alloc hb7.size _⟩
  ·exact⟨_,⟨ua,un,uc,va,vn,vc⟩,rfl,rfl,Es Z7 _ _,lA,fun y hy=>(hu y hy).set2 Z7 _ _,((QB hz1 hb7).setCell (Nat.le_refl _) _).setCell (Nat.le_refl _) _⟩
 case rest =>
  obtain⟨yb,u,rfl,rfl,YB,lyb,hu,hb2⟩:=hcut;obtain⟨ua,un,uc,va,vn,vc⟩:=u;simp only at YB;have L2:=L1.below hb2;have K2:=K1'.trans (Lw.of_below hb2);have CI2:=stay hb2 CI1;clear L1 K1' hT1 CI1 CA1 lS lI lA hb2 HBH HH r0 r1 r2 r3 r4 r5 r6 r7 r8 r9 r10 r11 r12 r13 r14 m0 m1 m2 y0 y1;have hr:=Aa HR;clear HR;cases RB with
  | none =>
   simp only at hr;have x29:=Ab L2.blk 29;have f29:=Ae L2.blk 29;have lS:=lt_of_block L2.blk;simp at x29;obtain⟨g4,k4⟩:=L2.stop;rw[hr]at g4;clear hr;go_wp2;refine bodyPost_ret (v:=.tuple #[]) (by simp[results,Tryz.results127,go_sem]) rfl ?_;exact⟨rfl,g4,K2.trans k4⟩
  | some y =>
   have hy:=hu y rfl;obtain⟨i0,i1,i2⟩:=cl3 CI2;obtain⟨y0,y1⟩:=cl2 YB;have lI:=lt_of_block CI2;have lY:=lt_of_block YB;simp at i0 i1 i2 y0 y1;simp only at hr;clear hu;go_wp2_with fail
   refine(Aa HTN _).mono ?_;rintro e w3 ⟨rfl,rfl⟩
   go_upto_if 31 with fail
   go_cut [8] from 9 (fun _ wx=>∃ t:Zv,Hid ((if GO=true then Aaf b.T b.st y (nxt:Int) t else t)=R)∧LsAt wx S G b gc t∧Lw S G w wx∧wx.heap[w.heap.size]?=some (O17 (p:Int) op n)∧wx.heap[yb]?=some (O27 ua un uc va vn vc)∧FrV.is ⟨ua,un,uc,va,vn,vc⟩ y wx)
   case first =>
    cases J with
    | false =>
     simp only[Bool.false_eq_true,if_false]at hr;have HA2:=Ac hr;clear hr;go_wp2
     go_meet
     case rel=>exact⟨_,HA2,L2,K2,CI2,YB,hy⟩
    | true =>
     simp only[if_true]at hr;have HA2:=Ac hr;clear hr;have hj:=Aa HJ ⟨ua,un,uc,va,vn,vc⟩ y n s1 _ K2 L2 hy;simp only[FrV.val]at hj;have HJ4:=Ac hj;clear hj;go_wp2_with fail
     refine(Aa HJ4).mono ?_;rintro e w4 ⟨rfl,L4,K4⟩;have CI4:=K4.stay CI2 (by omega) (by omega);have YB4:=K4.stay YB (by omega) (by omega);have hy4:=hy.lw K4;go_wp2
     go_meet
     case rel=>exact⟨_,HA2,L4,K2.trans K4,CI4,YB4,hy4⟩
   case rest =>
    obtain⟨t,HA,L5,K5,CI5,YB5,hy5⟩:=hcut;clear hr L2 K2 CI2 YB hy i0 i1 i2 y0 y1 lI lY HJ HTN;have hr:=Aa HA;obtain⟨i0,i1,i2⟩:=cl3 CI5;obtain⟨y0,y1⟩:=cl2 YB5;have lI:=lt_of_block CI5;have lY:=lt_of_block YB5;simp at i0 i1 i2 y0 y1;clear HA;go_wp2_with fail
    refine(Aa HGN _).mono ?_;rintro e w6 ⟨rfl,rfl⟩;cases GO with
    | false =>
     simp only[Bool.false_eq_true,if_false]at hr;subst hr;go_wp2
     go_end0
     exact⟨rfl,L5,K5⟩
    | true =>
     simp only[if_true]at hr;subst hr;go_wp2_with fail
     refine(Aa HNX _).mono ?_;rintro e w7 ⟨rfl,hb7⟩;have L7:=L5.below hb7;have K7:=K5.trans (Lw.of_below hb7);have YB7:=stay hb7 YB5;have hy7:=hy5.below hb7;obtain⟨z0,z1⟩:=cl2 YB7;have lY7:=lt_of_block YB7;simp at z0 z1;have ha:=Aa HAR ⟨ua,un,uc,va,vn,vc⟩ y (nxt:Int) t _ K7 L7 hy7;simp only[FrV.val]at ha;have HA7:=Ac ha;clear ha L5 K5 CI5 YB5 hy5 hb7 y0 y1 i0 i1 i2;go_wp2_with fail
     refine(Aa HA7).mono ?_;rintro e w8 ⟨rfl,L8,K8⟩;go_wp2
     go_end0
     exact⟨rfl,L8,K7.trans K8⟩
theorem Ti (b:PBd) (S G gc bb:Nat) (L:List Cd.Ins) (lk:Cd.Ins→Zt→Zv→Zv) (OK:Zv→Prop) (s:Zv) (w:World) (eL:b.L=L) (hLl:L.length≤100000) (h:LsAt w S G b gc s) (h0:OK s) (hp:∀ i∈L,0≤i.place)
  (hIn:∀ w',Lw S G w w'→InsAt w' bb (.slice b.la L.length b.lc) L)
  (hOK:∀ i∈L,∀ t:Zv,OK t→i.place<(t.sp.length:Int)→(t.at i.place.toNat).ri=true→OK (lk i (t.at i.place.toNat).fr (t.calm i.place.toNat)))
  (hLk:∀ i∈L,∀ t:Zv,OK t→i.place<(t.sp.length:Int)→(t.at i.place.toNat).ri=true→∀ (v:FrV) w',Lw S G w w'→LsAt w' S G b gc (t.calm i.place.toNat)→v.is (t.at i.place.toNat).fr w' →
   Calls Tryz.prog 127 #[.pointer (some ⟨S,0,none⟩),.agg #[.int .i64 i.place,.int .i64 i.op,.int .i64 i.n],v.val] w' fun e w''=>e=.returned (.tuple #[])∧LsAt w'' S G b gc (lk i (t.at i.place.toNat).fr (t.calm i.place.toNat))∧Lw S G w' w'') :
  Calls Tryz.prog 80 #[.pointer (some ⟨S,0,none⟩)] w fun e w'=>e=.returned (.bool ((Zz lk L false s).2 && !(Zz lk L false s).1.hop))∧LsAt w' S G b gc (Zz lk L false s).1∧OK (Zz lk L false s).1∧Lw S G w w':=by
 generalize hr:Zz lk L false s=R;have HR:Hid (Zz lk (L.drop 0) false s=R):=hr;have x12:=Ab h.blk 12;have hSlt:S<w.heap.size:=lt_of_block h.blk;have hGlt:G<w.heap.size:=(h.free 0).2;simp at x12;rw[eL]at x12;have HIN:=hIn;generalize b.la=la at x12 HIN;generalize b.lc=lc at x12 HIN;have HIN':=Ac HIN;have HOK:=Ac hOK;have HLK:=Ac hLk;have HP:=Ac hp;have H0:=Ac h0;clear hr hIn HIN hOK hLk hp h0 eL;go_enter Tryz.func80,Tryz.ntmps80;go_wp2
 go_loopw [3,12] (fun s3 s12 wr=>∃ (q:Nat) (t:Zv) (bo:Bool),q≤L.length∧s3=.bool bo∧s12=.int .i64 (q:Int)∧Hid (Zz lk (L.drop q) bo t=R)∧LsAt wr S G b gc t∧Hid (OK t)∧Lw S G w wr)
  (fun _ v _=>L.length-(intOf v).toNat)
 case atStart=>exact⟨0,s,false,by omega,rfl,rfl,HR,h,H0,Lw.refl _ _ _⟩
 case round =>
  clear HR h H0 x12;obtain⟨q,t,bo,hq,rfl,rfl,HR,L1,HO,K1⟩:=hrel;have hKs:=K1.size;by_cases hkn:q<L.length
  ·obtain⟨g,hg,hglt,_,hcell⟩:=Ao (Aa HIN' _ K1) (by omega);obtain⟨t1,t2,t3,t4⟩:=Ie L q hkn;have y0:=(hcell (q*3) (by omega)).trans t1;have y1:=(hcell (q*3+1) (by omega)).trans t2;have y2:=(hcell (q*3+2) (by omega)).trans t3;have hmem:=List.getElem_mem hkn;have hd:L.drop q=L[q]::L.drop (q+1):=List.drop_eq_getElem_cons hkn;have hr:=Aa HR;rw[hd,Zz]at hr;have hpi:=Aa HP _ hmem;have hok:=Aa HOK _ hmem t (Aa HO);have hlk:=Aa HLK _ hmem t (Aa HO);generalize L[q]=ins at *;obtain⟨ip,op,n⟩:=ins;simp only at y0 y1 y2 hr hpi hok hlk;obtain⟨p,rfl⟩:∃ p:Nat,ip=(p:Int):=⟨ip.toNat,by omega⟩;simp only[Int.toNat_natCast]at hr hok hlk;subst hg;have kb:(q:Int)<(L.length:Int):=by omega
   have hbI:Below wr.heap.size wr (wr.alloc (O17 (p:Int) op n)):=QN _;have L2:=L1.below hbI;have K2:=K1.trans (Lw.of_below hbI);have CI2:=Ad wr (O17 (p:Int) op n);have HOI:=Ac hok;have HLI:=Ac hlk;have HRR:=Ac hr;have hlen:=L1.len;have hcap:=L1.cap;clear hok hlk hr hd hcell HR t1 t2 t3 t4 hbI;have i0:=Ab CI2 0;have x28:=Ab L2.blk 28;have lS:=lt_of_block L2.blk;have lI:=lt_of_block CI2;simp at i0 x28;by_cases c1:t.sp.length≤p
   ·have d1:decide (t.sp.length≤p)=true:=decide_eq_true c1;have c1':(t.sp.length:Int)≤(p:Int):=by omega
    have HG:Hid (Zz lk (L.drop (q+1)) bo t=R):=by unfold Hid;rw[← Aa HRR,if_pos (.inl c1')]
    go_wp2
    go_quiet (fail)
    rename_i nq;have hbq:Below (wr.alloc (O17 (p:Int) op n)).heap.size (wr.alloc (O17 (p:Int) op n)) ((wr.alloc (O17 (p:Int) op n)).drewN nq):=Bg (Below.refl _ _);have L3:=L2.below hbq;have K3:=K2.trans (Lw.of_below hbq);go_wp2
    go_roundw
    case rel=>exact⟨q+1,t,bo,by omega,rfl,by go_num,HG,L3,HO,K3⟩
    case measure=>simp[intOf];omega
   ·have d1:decide (t.sp.length≤p)=false:=decide_eq_false c1;have kp:(p:Int)<(t.sp.length:Int):=by omega
    obtain⟨u,hu,z0,z1,z2,z3,z4⟩:=L2.at (i:=p) (by omega);obtain⟨ua,un,uc,va,vn,vc⟩:=u;simp only at z0 z1;have lG:=(L2.free 0).2;cases c2:(t.at p).ri with
    | false =>
     have HG:Hid (Zz lk (L.drop (q+1)) bo t=R):=by unfold Hid;rw[← Aa HRR,if_pos (.inr c2)]
     rw[c2]at z3;go_wp2
     go_quiet (fail)
     rename_i nq;have hbq:Below (wr.alloc (O17 (p:Int) op n)).heap.size (wr.alloc (O17 (p:Int) op n)) ((wr.alloc (O17 (p:Int) op n)).drewN nq):=Bg (Below.refl _ _);have L3:=L2.below hbq;have K3:=K2.trans (Lw.of_below hbq);go_wp2
     go_roundw
     case rel=>exact⟨q+1,t,bo,by omega,rfl,by go_num,HG,L3,HO,K3⟩
     case measure=>simp[intOf];omega
    | true =>
     have HG:Hid (Zz lk (L.drop (q+1)) true (lk ⟨(p:Int),op,n⟩ (t.at p).fr (t.calm p))=R):=by unfold Hid;rw[← Aa HRR,if_neg (fun h=>h.elim (fun h=>by omega) (fun h=>by rw[c2]at h;cases h))]
     have HO2:=Ac (Aa HOI kp c2);have HL2:=Ac (Aa HLI kp c2);rw[c2]at z3;go_wp2
     go_quiet (fail)
     rename_i nq;have hbq:Below (wr.alloc (O17 (p:Int) op n)).heap.size (wr.alloc (O17 (p:Int) op n)) ((wr.alloc (O17 (p:Int) op n)).drewN nq):=Bg (Below.refl _ _);have L3:=L2.below hbq;have K3:=K2.trans (Lw.of_below hbq);have CI3:=stay hbq CI2;clear L2 K2 CI2 hbq i0 x28 z0 z1 z2 z3 z4 hu lS lI lG HOI HLI HRR L1 K1;go_wp2;generalize (wr.alloc (O17 (p:Int) op n)).drewN nq=w3 at *;have i0:=Ab CI3 0;have x28:=Ab L3.blk 28;have lS:=lt_of_block L3.blk;have lI:=lt_of_block CI3;obtain⟨u,hu,z0,z1,z2,z3,z4⟩:=L3.at (i:=p) (by omega);obtain⟨f3,lG⟩:=L3.free (p*5+3);rw[c2]at z3;simp at i0 x28;obtain⟨g4,k4⟩:=L3.ri (q:=p) (by omega) false
     go_region
     have hd:Below (w3.setCell ⟨G,p*5+3,none⟩ (.bool false)).heap.size (w3.setCell ⟨G,p*5+3,none⟩ (.bool false)) (w3.setCell ⟨G,p*5+3,none⟩ (.bool false)).drew:=(Below.refl _ _).drew;have k4':=k4.trans (Lw.of_below hd);have L4:LsAt (w3.setCell ⟨G,p*5+3,none⟩ (.bool false)).drew S G b gc (t.calm p):=g4.below hd;have K4:=K3.trans k4';have CI4:=k4'.stay CI3 (by omega) (by omega);clear L3 K3 CI3 i0 x28 lS lI u hu z0 z1 z2 z3 z4 f3 lG g4 k4 k4' hd;generalize (w3.setCell ⟨G,p*5+3,none⟩ (.bool false)).drew=w4 at *;have i0:=Ab CI4 0;have x28:=Ab L4.blk 28;have lS:=lt_of_block L4.blk;have lI:=lt_of_block CI4;have ec:(t.calm p).sp.length=t.sp.length:=by simp[Zv.calm]
     obtain⟨u,hu,z0,z1,-,-,-⟩:=L4.at (i:=p) (by omega);have ef:((t.calm p).at p).fr=(t.at p).fr:=by unfold Zv.calm;rw[Hg t p _ (by omega),if_pos rfl]
     rw[ef]at hu;rw[Array.getElem?_eq_getElem (by simp)]at x28;simp only[ec]at x28;obtain⟨ua,un,uc,va,vn,vc⟩:=u;obtain⟨-,lG⟩:=L4.free 0;simp at i0 x28 z0 z1;go_wp2
     go_region
     have hd:Below w4.heap.size w4 (w4.alloc (O27 ua un uc va vn vc)).drew:=(QN _).drew;have L5:=L4.below hd;have K5:=K4.trans (Lw.of_below hd);have CI5:=stay hd CI4;have CC5:(w4.alloc (O27 ua un uc va vn vc)).drew.heap[w4.heap.size]?=some (O27 ua un uc va vn vc):=Ad w4 _;have hu5:=hu.below hd;clear L4 K4 CI4 i0 x28 lS lI hu z0 z1 lG hd ec ef;generalize (w4.alloc (O27 ua un uc va vn vc)).drew=w5 at *;have hl:=Aa HL2 ⟨ua,un,uc,va,vn,vc⟩ w5 K5 L5 hu5;simp only[FrV.val]at hl;have HL5:=Ac hl;obtain⟨i0,i1,i2⟩:=cl3 CI5;have c0:=Ab CC5 0;have c1':=Ab CC5 1;have lI:=lt_of_block CI5;have lC:=lt_of_block CC5;simp at i0 i1 i2 c0 c1';clear hl HL2;go_wp2_with fail
     refine(Aa HL5).mono ?_;rintro e w6 ⟨rfl,L6,K6⟩;have K7:=K5.trans K6;clear L5 K5 K6 CI5 CC5 hu5 i0 i1 i2 c0 c1' lI lC;go_wp2
     go_roundw
     case rel=>exact⟨q+1,_,true,by omega,rfl,by go_num,HG,L6,HO2,K7⟩
     case measure=>simp[intOf];omega
  ·have kb:¬ (q:Int)<(L.length:Int):=by omega
   have e:(t,bo)=R:=by rw[← Aa HR,List.drop_eq_nil_of_le (by omega)];rfl
   subst e;clear HR;have x29:=Ab L1.blk 29;have lS:=lt_of_block L1.blk;simp at x29;cases bo with
   | false =>
    go_wp2;go_ret;exact⟨rfl,L1,Aa HO,K1⟩
   | true =>
    go_wp2;go_ret;exact⟨by simp,L1,Aa HO,K1⟩
def MpsR (w:World) (b:Nat) (v:Value) (l:List (Rd.Mp × Value × Value)):Prop :=
 w.ownsRow b 218 3 v l.length (Co l)∧∀ p∈l,TyR w p.2.1 p.1.locals∧TyR w p.2.2 p.1.stack
theorem MpsR.below {w w':World}{b:Nat}{v:Value}{l:List (Rd.Mp × Value × Value)} (h:MpsR w b v l) (hb:Below w.heap.size w w'):MpsR w' b v l :=
 ⟨Av h.1 (Kp.of_below (e:=none) hb) (by decide),fun p hp=>⟨(h.2 p hp).1.below hb,(h.2 p hp).2.below hb⟩⟩
theorem Oz (k:Nat) (p:Ac7):∀ (l:List Ac7),Aav k (l++[p])=Aav k l++Aav (k+l.length) [p]:=by
 intro l
 induction l generalizing k with
 | nil=>rfl
 | cons x r ih =>
  simp only[List.cons_append,Aav,ih,List.length_cons];rw[show k+1+r.length=k+(r.length+1) by omega]
  split<;>rfl
theorem Ps (s:Zv) (k:Nat) (hk:k<s.sp.length):Aav 0 (s.sp.take (k+1))=Aav 0 (s.sp.take k)++(if (s.at k).wa=true then [⟨(k:Int),(s.at k).fr.locals,(s.at k).fr.stack⟩] else []):=by
 have e:s.sp.take (k+1)=s.sp.take k++[s.at k]:=by
  rw[List.take_succ_eq_append_getElem hk];unfold Zv.at;rw[List.getD_eq_getElem?_getD,List.getElem?_eq_getElem hk];rfl
 rw[e,Oz,List.length_take,Nat.zero_add,Nat.min_eq_left (by omega)];rfl
theorem Uj (b:PBd) (S G gc:Nat) (s:Zv) (w:World) (h:LsAt w S G b gc s) :
  Calls Tryz.prog 81 #[.pointer (some ⟨S,0,none⟩)] w fun e w'=>∃ a n c ms,e=.returned (.slice a n c)∧ms.map Prod.fst=Aav 0 s.sp∧MpsR w' w.heap.size (.slice a n c) ms∧Below w.heap.size w w':=by
 obtain⟨i0,hi,hz0,hz1,hz2⟩:=info_parts Tryz.infoMap;have x28:=Ab h.blk 28;have lS:=lt_of_block h.blk;have lG:=(h.free 0).2;have hlen:=h.len;have hcap:=h.cap;simp at x28;have hat:=fun i hi=>h.at (i:=i) hi;generalize hR:Aav 0 s.sp=R;have HR:=Ac hR;have HAT:=Ac hat;clear h hR hat;go_enter Tryz.func81,Tryz.ntmps81;go_wp2
 go_loopw [3,11] (fun v i wr=>∃ (k:Nat) (ms:List (Rd.Mp × Value × Value)),k≤s.sp.length∧i=.int .i64 (k:Int)∧ms.length≤k∧Hid (ms.map Prod.fst=Aav 0 (s.sp.take k))∧wr.ownsRow w.heap.size 218 3 v ms.length (Co ms)∧Hid (∀ p∈ms,TyR w p.2.1 p.1.locals∧TyR w p.2.2 p.1.stack)∧Below w.heap.size w wr)
  (fun _ i _=>s.sp.length-(intOf i).toNat)
 case atStart=>exact⟨0,[],by omega,rfl,Nat.le_refl _,rfl,World.ownsRow_nil _ _ _ _,(fun p hp=>by simp at hp),Below.refl _ _⟩
 case round =>
  clear x28;obtain⟨k,ms,hk,rfl,hml,HM,hown,HT,hB⟩:=hrel;have hBs:=hB.size;obtain⟨ma,mc,rfl⟩:=Af hown;by_cases hkn:k<s.sp.length
  ·obtain⟨u,hu,z0,z1,z2,z3,z4⟩:=Aa HAT k hkn;obtain⟨ua,un,uc,va,vn,vc⟩:=u;have hmt:=Ps s k hkn;have hlo:=hu.lo;have hst:=hu.st;simp only at z0 z1 hlo hst;replace z0:=(hB.cell (p:=⟨G,k*5,none⟩) lG).trans z0;replace z1:=(hB.cell (p:=⟨G,k*5+1,none⟩) lG).trans z1;replace z2:=(hB.cell (p:=⟨G,k*5+2,none⟩) lG).trans z2;replace z3:=(hB.cell (p:=⟨G,k*5+3,none⟩) lG).trans z3;replace z4:=(hB.cell (p:=⟨G,k*5+4,none⟩) lG).trans z4;clear hu;generalize (s.at k).wa=wa at *;generalize (s.at k).st=st at *;generalize (s.at k).ri=ri at *;generalize (s.at k).fr=fr at *;have kb:(k:Int)<(s.sp.length:Int):=by omega
   have lG2:G<wr.heap.size:=by omega
   cases wa with
   | false =>
    have HM2:Hid (ms.map Prod.fst=Aav 0 (s.sp.take (k+1))):=by unfold Hid;rw[Aa HM,hmt];simp
    have hB2:=hB.alloc hBs (O30 ua un uc va vn vc st ri false);have hown2:=hown.alloc (O30 ua un uc va vn vc st ri false);clear hmt;go_wp2
    go_roundw
    case rel=>exact⟨k+1,ms,by omega,by go_num,by omega,HM2,hown2,HT,hB2⟩
    case measure=>simp[intOf];omega
   | true =>
    have HM2:Hid ((ms++[((⟨(k:Int),fr.locals,fr.stack⟩:Rd.Mp),Value.slice ua un uc,Value.slice va vn vc)]).map Prod.fst=Aav 0 (s.sp.take (k+1))):=by unfold Hid;rw[List.map_append,Aa HM,hmt];simp
    have HT2:Hid (∀ p∈ms++[((⟨(k:Int),fr.locals,fr.stack⟩:Rd.Mp),Value.slice ua un uc,Value.slice va vn vc)],TyR w p.2.1 p.1.locals∧TyR w p.2.2 p.1.stack):=fun p hp=>by
     rcases List.mem_append.1 hp with hp|hp
     ·exact Aa HT p hp
     ·rw[List.mem_singleton.1 hp];exact⟨hlo,hst⟩
    have hB2:=hB.alloc hBs (O30 ua un uc va vn vc st ri true);have hown2:=hown.alloc (O30 ua un uc va vn vc st ri true);clear hmt;go_wp2_with (at_builtin;refine wpList_append_own _ rfl _ _ 92 rfl w.heap.size 218 i0 _ 3 56 Tryz.underlying92 hi hz0 hz1 hz2 rfl (by decide) _ _ _ rfl (hown2.alloc _) ⟨wr.heap.size+1,0,none⟩ 1 1 [.int .i64 (k:Int),.slice ua un uc,.slice va vn vc] rfl rfl ?c1 ?c2 ?c3 ?c4 ?c5 ?_)
    case c1=>exact Au _ _ _ _ (by simp)
    case c2=>intro u hu;simp at hu;rcases hu with rfl | rfl | rfl<;>rfl
    case c3=>unfold maxLen;omega
    case c4=>omega
    case c5=>simp;omega
    intro v' w5 hown5 hgrow _;have hB5:=(hB2.alloc hB2.size (O19 (k:Int) ua un uc va vn vc)).grown hgrow (by simp;omega) (fun j hj=>(hown2.lt j hj).1);have hown6:w5.ownsRow w.heap.size 218 3 v' (ms++[((⟨(k:Int),fr.locals,fr.stack⟩:Rd.Mp),Value.slice ua un uc,Value.slice va vn vc)]).length (Co (ms++[((⟨(k:Int),fr.locals,fr.stack⟩:Rd.Mp),Value.slice ua un uc,Value.slice va vn vc)])):=by rw[Gx,List.length_append];exact hown5
    clear hgrow hown hown2 hown5 hB hB2;go_wp2
    go_roundw
    case rel=>exact⟨k+1,_,by omega,by go_num,by simp;omega,HM2,hown6,HT2,hB5⟩
    case measure=>simp[intOf];omega
  ·have kb:¬ (k:Int)<(s.sp.length:Int):=by omega
   have e:ms.map Prod.fst=R:=by rw[Aa HM,List.take_of_length_le (by omega),Aa HR]
   have HE:=Ac e;clear e;go_wp2;go_ret;exact⟨_,_,_,rfl,ms,Aa HE,⟨hown,fun p hp=>⟨(Aa HT p hp).1.below hB,(Aa HT p hp).2.below hB⟩⟩,hB⟩
theorem Tryz.infoSpot:(Tryz.prog.info? 212).map (fun i=>(i.zero,i.size,i.bytes))=some (some (.agg #[.slice none 0 0,.slice none 0 0,.bool false,.bool false,.bool false]),5,56):=by kernel_rfl
def Z6 (n:Nat):Array Value:=madeCells (Value.agg #[.slice none 0 0,.slice none 0 0,.bool false,.bool false,.bool false]).cells (n*5)
theorem Wl (n:Nat) (hn:n≤1000) (w:World):(Instr.makeSlice 147 (.int .i64 (n:Int)) (.int .i64 (n:Int))).run Tryz.prog w=.ok (.slice (some ⟨w.heap.size,0,none⟩) n n) (w.alloc (.cells (Z6 n) 212)):=by
 obtain⟨i0,hi,hz0,hz1,hz2⟩:=info_parts Tryz.infoSpot;have:=run_make w 147 212 i0 _ Tryz.underlying147 hi hz0 .i64 .i64 (n:Int) (n:Int) (by omega) (Int.le_refl _) (by rw[hz2];omega) (by omega);rw[hz1]at this
 simpa[Z6] using this
theorem X9 (n:Nat):(Z6 n).size=n*5:=by simp[Z6,madeCells]
theorem Kb (n i j:Nat) (hi:i<n) (hj:j<5):(Z6 n)[i*5+j]?=(#[.slice none 0 0,.slice none 0 0,.bool false,.bool false,.bool false]:Array Value)[j]?:=by
 have hl:i*5+j<n*5:=by omega
 have hm:(i*5+j) % 5=j:=by omega
 unfold Z6 madeCells;have hj':j=0∨j=1∨j=2∨j=3∨j=4:=by omega
 rcases hj' with rfl|rfl|rfl|rfl|rfl
 all_goals
  simp only[Value.cells,Array.getElem?_map];rw[Array.getElem?_eq_getElem (by simpa using hl)];simp[hm]
theorem LsAt.made {w:World}{S G:Nat}{b:PBd}{n:Nat} (h1:w.heap[S]?=some (O29 (some ⟨b.tg,0,none⟩) b.T.length b.tc b.ya b.yn b.yc b.cl b.nm b.pa b.pl b.pc b.r1 b.r2 b.lo b.st b.ca b.cn b.cc b.ha b.hl b.hc b.ma b.ml b.mc b.la b.L.length b.lc b.fa1 b.fl1 b.fc1 b.fa2 b.fl2 b.fc2 (some ⟨b.tg,0,none⟩) b.T.length b.tc b.ya b.yn b.yc b.cl b.nm b.pa b.pl b.pc b.r1 b.r2 b.lo b.st b.ca b.cn b.cc b.ha b.hl b.hc b.ma b.ml b.mc b.la b.L.length b.lc (some ⟨G,0,none⟩) n n false)) (h2:w.heap[G]?=some (.cells (Z6 n) 212 (0,0))) (hne:S≠G) (hn:n≤1000):LsAt w S G b n ⟨List.replicate n Ab4,false⟩:=by
 refine⟨by simpa using h1,⟨_,h2,by simpa using X9 n,fun i hi=>?_⟩,hne,by simpa using hn,by simp;omega⟩;have hi':i<n:=by simpa using hi
 have e:(⟨List.replicate n Ab4,false⟩:Zv).at i=Ab4:=by
  unfold Zv.at;rw[List.getD_eq_getElem?_getD,List.getElem?_replicate,if_pos hi'];rfl
 rw[e];exact⟨⟨none,0,0,none,0,0⟩,⟨Kb n i 0 hi' (by omega),Kb n i 1 hi' (by omega),Kb n i 2 hi' (by omega),Kb n i 3 hi' (by omega),Kb n i 4 hi' (by omega)⟩,⟨TyR.nil _,TyR.nil _,Nat.zero_le _,Nat.zero_le _⟩⟩
end Go.Proofs.YtcefiamkoincoaaGreat
