/- a part of the proof -/
import Derived.Deep.Cut
import Derived.Test.YtcefiamkoincoaaGreatPk22
set_option maxRecDepth 100000
set_option maxHeartbeats 40000000
set_option linter.unusedVariables false
set_option linter.unusedSimpArgs false
namespace Go.Proofs.YtcefiamkoincoaaGreat
open Go.RowKit
variable {ya:Option Addr}{yn yc:Nat}
theorem Ns {α β γ:Type} (f:α→β→γ) (a:List α) (b:List β) (k:Nat) (h1:k<a.length) (h2:k<b.length):List.zipWith f (a.take (k+1)) (b.take (k+1))=List.zipWith f (a.take k) (b.take k)++[f a[k] b[k]]:=by
 rw[List.take_succ_eq_append_getElem h1,List.take_succ_eq_append_getElem h2,List.zipWith_append (by simp;omega)];rfl
theorem Br {w w':World}{k1 k2 k3 o:Nat}{u0 u1 u2 u3 u4 u5:Value} (l1:k1<w.heap.size) (l2:k2<w.heap.size) (l3:k3<w.heap.size)
  (h:w.cell? ⟨k1,0,none⟩=some u0∧w.cell? ⟨k1,1,none⟩=some u1∧w.cell? ⟨k2,0,none⟩=some u2∧w.cell? ⟨k2,1,none⟩=some u3∧w.cell? ⟨k3,o,none⟩=some u4∧w.cell? ⟨k3,o+1,none⟩=some u5) (hb:Below w.heap.size w w') :
  w'.cell? ⟨k1,0,none⟩=some u0∧w'.cell? ⟨k1,1,none⟩=some u1∧w'.cell? ⟨k2,0,none⟩=some u2∧w'.cell? ⟨k2,1,none⟩=some u3∧w'.cell? ⟨k3,o,none⟩=some u4∧w'.cell? ⟨k3,o+1,none⟩=some u5 :=
 ⟨QC hb l1 h.1,QC hb l1 h.2.1,QC hb l2 h.2.2.1,QC hb l2 h.2.2.2.1,QC hb l3 h.2.2.2.2.1,QC hb l3 h.2.2.2.2.2⟩
theorem H5 (T:List Int) (tg tc:Nat) (a b:List (Int × Int)) (aa ab:Option Addr) (an ac bn bc:Nat) (w:World) (hl:T.length≤1000) (hT:TreeIn w tg T) (ha:TyR w (.slice aa an ac) a) (hb:TyR w (.slice ab bn bc) b) (hal:a.length≤10000) (hne:a.length=b.length) :
  Calls Tryz.prog 168 #[.agg #[.slice (some ⟨tg,0,none⟩) T.length tc,.slice ya yn yc],.slice aa an ac,.slice ab bn bc] w fun e w'=>∃ ja jn jc,e=.returned (.slice ja jn jc)∧TyR w' (.slice ja jn jc) (List.zipWith (Tr.joinT T) a b)∧Below w.heap.size w w':=by
 obtain⟨e1,-,-⟩:=ha.cap;obtain⟨e2,-,-⟩:=hb.cap;subst e1 e2;obtain⟨i0,hi,hz0,hz1,hz2⟩:=info_parts Tryz.infoType;have hB0:Below w.heap.size w (w.alloc (O2 (some ⟨tg,0,none⟩) T.length tc ya yn yc)):=QN _;have T0:=Ad w (O2 (some ⟨tg,0,none⟩) T.length tc ya yn yc);have HNE:=Ac hne;clear hne;go_enter Tryz.func168,Tryz.ntmps168;go_wp2
 go_loopw [7,13] (fun v i wr=>∃ k:Nat,k≤a.length∧i=.int .i64 (k:Int)∧wr.ownsRow (w.heap.size+1) 39 2 v k (Am (List.zipWith (Tr.joinT T) (a.take k) (b.take k)))∧Below w.heap.size w wr∧wr.heap[w.heap.size]?=some (O2 (some ⟨tg,0,none⟩) T.length tc ya yn yc))
  (fun _ i _=>a.length-(intOf i).toNat)
 case atStart=>exact⟨0,by omega,rfl,World.ownsRow_nil _ _ _ _,hB0,T0⟩
 case round =>
  clear hB0 T0;obtain⟨k,hk,rfl,hown,hB,hC⟩:=hrel;have hBs:=hB.size;have hne:=Aa HNE;obtain⟨ua,uc,rfl⟩:=Af hown;by_cases hkn:k<a.length
  ·have hkb:k<b.length:=by omega
   obtain⟨g,o,rfl,hg,hat⟩:=(ha.below hB).at (by omega);obtain⟨g2,o2,rfl,hg2,hat2⟩:=(hb.below hB).at (by omega);obtain⟨x0,x1⟩:=hat k hkn;obtain⟨y0,y1⟩:=hat2 k hkb;have hd:=Ns (Tr.joinT T) a b k hkn hkb;generalize a[k]=s at *;generalize b[k]=t at *;obtain⟨s1,s2⟩:=s;obtain⟨t1,t2⟩:=t;simp only at x0 x1 y0 y1;have f0:(wr.alloc (O7 s1 s2)).cell? ⟨w.heap.size,0,none⟩=some (.slice (some ⟨tg,0,none⟩) T.length tc):=(Ab (Aj hC (O7 s1 s2)) 0).trans rfl;have f1:(wr.alloc (O7 s1 s2)).cell? ⟨w.heap.size,1,none⟩=some (.slice ya yn yc):=(Ab (Aj hC (O7 s1 s2)) 1).trans rfl;have p0:(wr.alloc (O7 s1 s2)).cell? ⟨wr.heap.size,0,none⟩=some (.int .i64 s1):=(Ab (Ad wr (O7 s1 s2)) 0).trans rfl;have p1:(wr.alloc (O7 s1 s2)).cell? ⟨wr.heap.size,1,none⟩=some (.int .i64 s2):=(Ab (Ad wr (O7 s1 s2)) 1).trans rfl;have z0:=(World.cell?_alloc_lt wr (O7 s1 s2) ⟨g2,o2+k*2,none⟩ hg2).trans y0;have z1:=(World.cell?_alloc_lt wr (O7 s1 s2) ⟨g2,o2+k*2+1,none⟩ hg2).trans y1;have lF:=lt_of_block (Aj hC (O7 s1 s2));have lP:=lt_of_block (Ad wr (O7 s1 s2));have lG:g2<(wr.alloc (O7 s1 s2)).heap.size:=by simp;omega
   have hBX:=(hB.alloc hBs (O7 s1 s2)).drew;have hc:=fun w' (h:Below w.heap.size w w')=>Ud (ya:=ya) (yn:=yn) (yc:=yc) T tg tc s1 s2 t1 t2 w' hl (hT.below h);generalize Tr.joinT T (s1,s2) (t1,t2)=j at *;obtain⟨j1,j2⟩:=j;simp only at hc;have HC:=Ac hc;have HD:=Ac hd;have kb:(k:Int)<(a.length:Int):=by omega
   have kb2:(k:Int)<(b.length:Int):=by omega
   have hb1:Below wr.heap.size wr (wr.alloc (O7 s1 s2)).drew:=((Below.refl _ wr).alloc (Nat.le_refl _) _).drew;have hF6:(wr.alloc (O7 s1 s2)).drew.cell? ⟨w.heap.size,0,none⟩=some (.slice (some ⟨tg,0,none⟩) T.length tc)∧(wr.alloc (O7 s1 s2)).drew.cell? ⟨w.heap.size,1,none⟩=some (.slice ya yn yc)∧(wr.alloc (O7 s1 s2)).drew.cell? ⟨wr.heap.size,0,none⟩=some (.int .i64 s1)∧(wr.alloc (O7 s1 s2)).drew.cell? ⟨wr.heap.size,1,none⟩=some (.int .i64 s2)∧(wr.alloc (O7 s1 s2)).drew.cell? ⟨g2,o2+k*2,none⟩=some (.int .i64 t1)∧(wr.alloc (O7 s1 s2)).drew.cell? ⟨g2,o2+k*2+1,none⟩=some (.int .i64 t2):=⟨f0,f1,p0,p1,z0,z1⟩;have Z0:((wr.alloc (O7 s1 s2)).alloc (O7 0 0)).drew.heap[wr.heap.size+1]?=some (O7 0 0):=Ag wr (O7 s1 s2) (O7 0 0);have hBZ:Below (wr.alloc (O7 s1 s2)).drew.heap.size (wr.alloc (O7 s1 s2)).drew ((wr.alloc (O7 s1 s2)).alloc (O7 0 0)).drew:=⟨rfl,rfl,rfl,by simp[World.drew],fun k hk=>(((Below.refl _ (wr.alloc (O7 s1 s2))).alloc (Nat.le_refl _) (O7 0 0)).block k hk)⟩;have lZ:(wr.alloc (O7 s1 s2)).drew.heap.size≤((wr.alloc (O7 s1 s2)).alloc (O7 0 0)).drew.heap.size:=hBZ.size;have hBX2:Below w.heap.size w ((wr.alloc (O7 s1 s2)).alloc (O7 0 0)).drew:=((hB.alloc hBs (O7 s1 s2)).alloc (hB.alloc hBs (O7 s1 s2)).size (O7 0 0)).drew;replace lF:w.heap.size<(wr.alloc (O7 s1 s2)).drew.heap.size:=lF;replace lP:wr.heap.size<(wr.alloc (O7 s1 s2)).drew.heap.size:=lP;replace lG:g2<(wr.alloc (O7 s1 s2)).drew.heap.size:=lG;clear hat hat2 hc hne hd
   go_upto_region 6 with fail
   go_cut [10] from 14 to 33 (fun s10 wx=>∃ jb,s10=.pointer (some ⟨jb,0,none⟩)∧wx.heap[jb]?=some (O7 j1 j2)∧Below wr.heap.size wr wx)
   case first =>
    go_wp2
    go_region_held3 (fun w'=>w'.cell? ⟨w.heap.size,0,none⟩=some (.slice (some ⟨tg,0,none⟩) T.length tc)∧w'.cell? ⟨w.heap.size,1,none⟩=some (.slice ya yn yc)∧w'.cell? ⟨wr.heap.size,0,none⟩=some (.int .i64 s1)∧w'.cell? ⟨wr.heap.size,1,none⟩=some (.int .i64 s2)∧w'.cell? ⟨g2,o2+k*2,none⟩=some (.int .i64 t1)∧w'.cell? ⟨g2,o2+k*2+1,none⟩=some (.int .i64 t2))
     (first | (with_reducible exact hF6) | (with_reducible exact Br lF lP lG hF6 hb7) | (with_reducible exact Br lF lP lG hF6 (hb7.alloc hb7.size _)) | (with_reducible exact Br lF lP lG hF6 hBZ) | (with_reducible exact Br lF lP lG hF6 (hBZ.trans (hb7.mono lZ))) | (with_reducible exact Br lF lP lG hF6 ((hBZ.trans (hb7.mono lZ)).setCell (by simp) _)) | (with_reducible exact Br lF lP lG hF6 (((hBZ.trans (hb7.mono lZ)).setCell (by simp) _).setCell (by simp) _)))
     (first | (go_at_call 102;refine(Aa HC _ (by first | (with_reducible exact hBX) | (with_reducible exact hBX2))).mono ?_;rintro e w7 ⟨rfl,hb7⟩;try (have Z7:=stay hb7 Z0;have z0':=Ab Z7 0;have z1':=Ab Z7 1;have q0':=Ae Z7 0;have q1':=Ae Z7 1;simp at z0' z1')))
    all_goals
     go_wp2
     go_meet
    ·exact⟨_,rfl,Ad w7 _,hb1.trans ((hb7.mono (by simp[World.drew])).alloc (Nat.le_trans (by simp[World.drew]) hb7.size) _)⟩
    ·exact⟨_,rfl,Es Z7 _ _,(((hb1.trans (hBZ.mono (by simp[World.drew]))).trans (hb7.mono (by simp[World.drew];omega))).setCell (by simp) _).setCell (by simp) _⟩
   case rest =>
    obtain⟨jb,rfl,JB,hbx⟩:=hcut;have hBx:=hB.trans (hbx.mono hBs);have hsx:=hBx.size;have hCx:=stay hbx hC;have hownx:=Av hown (Kp.of_below (e:=none) hbx) (by decide);have j0:=Ab JB 0;have j1':=Ab JB 1;have lJ:=lt_of_block JB;simp at j0 j1';clear hbx hown hB hBs hC f0 f1 p0 p1 z0 z1 hF6 lF lP lG Z0 hBZ lZ hBX2 hBX hb1 x0 x1 y0 y1 hg hg2;go_wp2_with (at_builtin;refine wpList_append_own _ rfl _ _ 48 rfl (w.heap.size+1) 39 i0 _ 2 16 Tryz.underlying48 hi hz0 hz1 hz2 rfl (by decide) _ _ _ rfl (hownx.alloc _) ⟨wc.heap.size,0,none⟩ 1 1 [.int .i64 j1,.int .i64 j2] rfl rfl ?c1 ?c2 ?c3 ?c4 ?c5 ?_)
    case c1=>exact Au _ _ _ _ rfl
    case c2=>intro u hu;simp at hu;rcases hu with rfl | rfl<;>rfl
    case c3=>unfold maxLen;omega
    case c4=>omega
    case c5=>simp;omega
    intro v' w2 hown2 hgrow _;have hB2:=(hBx.alloc hsx (O7 j1 j2)).grown hgrow (by simp;omega) (fun j hj=>by have:=(hownx.lt j hj).1;omega);have hC2:=(hgrow.block _ (by simp;omega) (fun hh=>by have:=(hownx.lt _ hh.symm).1;omega)).trans (Aj hCx (O7 j1 j2));have hown3:w2.ownsRow (w.heap.size+1) 39 2 v' (k+1) (Am (List.zipWith (Tr.joinT T) (a.take (k+1)) (b.take (k+1)))):=by rw[Aa HD,Bs];exact hown2
    clear hgrow hown2 hownx hCx hBx JB j0 j1';go_wp2
    go_roundw
    case rel=>exact⟨k+1,by omega,by go_num,hown3,hB2,hC2⟩
    case measure=>simp[intOf];omega
  ·have kb:¬ (k:Int)<(a.length:Int):=by omega
   have ek:k=a.length:=by omega
   have HEK:=Ac ek;clear ek;go_wp2;go_ret;refine⟨ua,k,uc,rfl,?_,hB⟩;have:=Bl (l:=List.zipWith (Tr.joinT T) (a.take k) (b.take k)) (n:=k) hown (by simp;omega)
   rwa [List.take_of_length_le (by have:=Aa HEK;omega),List.take_of_length_le (by have:=Aa HEK;omega)]at this
theorem Uf (T:List Int) (tg tc:Nat) (u v:FrV) (x y:Zt) (w:World) (hl:T.length≤1000) (hT:TreeIn w tg T) (hu:u.is x w) (hv:v.is y w) :
  Calls Tryz.prog 126 #[u.val,.agg #[.slice (some ⟨tg,0,none⟩) T.length tc,.slice ya yn yc],v.val] w fun e w'=>∃ z:FrV,e=.returned (.tuple #[z.val,.bool (decide (x.locals.length=y.locals.length∧x.stack.length=y.stack.length))])∧((x.locals.length=y.locals.length∧x.stack.length=y.stack.length)→z.is (Aa1 T x y) w')∧Below w.heap.size w w':=by
 have h1:=fun w' (h:Below w.heap.size w w') hne=>H5 (ya:=ya) (yn:=yn) (yc:=yc) T tg tc x.locals y.locals u.la v.la u.ln u.lc v.ln v.lc w' hl (hT.below h) (hu.lo.below h) (hv.lo.below h) (by have:=hu.hl;omega) hne;have h2:=fun w' (h:Below w.heap.size w w') hne=>H5 (ya:=ya) (yn:=yn) (yc:=yc) T tg tc x.stack y.stack u.sa v.sa u.sn u.sc v.sn v.sc w' hl (hT.below h) (hu.st.below h) (hv.st.below h) (by have:=hu.hs;omega) hne;have hll:=hu.hl;have hls:=hu.hs;obtain⟨la,ln,lc,sa,sn,sc⟩:=u;obtain⟨la',ln',lc',sa',sn',sc'⟩:=v;obtain⟨e1,-,-⟩:=hu.lo.cap;obtain⟨e2,-,-⟩:=hu.st.cap;obtain⟨e3,-,-⟩:=hv.lo.cap;obtain⟨e4,-,-⟩:=hv.st.cap;simp only[FrV.val]at h1 h2 e1 e2 e3 e4 ⊢;subst e1 e2 e3 e4;have H1:=Ac h1;have H2:=Ac h2;clear h1 h2 hu hv;obtain⟨xl,xs⟩:=x;obtain⟨yl,ys⟩:=y;simp only at H1 H2 hll hls ⊢;have hB0:=Bp w (O27 la xl.length lc sa xs.length sc) (O2 (some ⟨tg,0,none⟩) T.length tc ya yn yc) (O27 la' yl.length lc' sa' ys.length sc') (O27 none 0 0 none 0 0);obtain⟨A0,T0,B0,Z0⟩:=Bf w (O27 la xl.length lc sa xs.length sc) (O2 (some ⟨tg,0,none⟩) T.length tc ya yn yc) (O27 la' yl.length lc' sa' ys.length sc') (O27 none 0 0 none 0 0);by_cases c1:xl.length=yl.length
 ·by_cases c2:xs.length=ys.length
  ·rw[decide_eq_true ⟨c1,c2⟩];have n1:((xl.length:Int) != (yl.length:Int))=false:=by simp[c1]
   have n2:((xs.length:Int) != (ys.length:Int))=false:=by simp[c2]
   have HJ1:=Ac (Aa H1 _ hB0 c1);have HC2:=Ac c2;have HC1:=Ac c1;clear c1 c2;go_enter Tryz.func126,Tryz.ntmps126;go_wp2_with fail
   refine(Aa HJ1).mono ?_;rintro e w1 ⟨ja,jn,jc,rfl,ht1,hb1⟩;have hB1:=QB hB0 hb1;have a1:=Ab (stay hb1 A0) 1;have t0:=Ab (stay hb1 T0) 0;have t1:=Ab (stay hb1 T0) 1;have b1:=Ab (stay hb1 B0) 1;have Z1:=stay hb1 Z0;simp at a1 t0 t1 b1;have HJ2:=Ac (Aa H2 _ hB1 (Aa HC2));clear hb1;go_wp2_with fail
   refine(Aa HJ2).mono ?_;rintro e w2 ⟨ka,kn,kc,rfl,ht2,hb2⟩;have hB2:=QB hB1 hb2;have Z2:=stay hb2 Z1;obtain⟨z0,z1⟩:=cl2 Z2;obtain⟨q0,q1⟩:=fr2 Z2;have lZ:=lt_of_block Z2;simp at z0 z1;have ht1':=ht1.below hb2;clear hb2;go_wp2;refine bodyPost_ret (v:=.tuple #[.agg #[.slice ja jn jc,.slice ka kn kc],.bool true]) (by simp[results,Tryz.results126,go_sem,z0,z1]) rfl ?_;refine⟨⟨ja,jn,jc,ka,kn,kc⟩,rfl,fun _=>⟨ht1'.set_frame Z2 _ _,ht2.set_frame Z2 _ _,?_,?_⟩,(hB2.setCell (by simp;omega) _).setCell (by simp;omega) _⟩
   ·have:=Aa HC1;simp[Aa1];omega
   ·have:=Aa HC2;simp[Aa1];omega
  ·rw[decide_eq_false (fun h=>c2 h.2)];have n1:((xl.length:Int) != (yl.length:Int))=false:=by simp[c1]
   have n2:((xs.length:Int) != (ys.length:Int))=true:=by simp;omega
   obtain⟨z0,z1⟩:=cl2 Z0;obtain⟨q0,q1⟩:=fr2 Z0;have lZ:=lt_of_block Z0;simp at z0 z1;have HC2:=Ac c2;clear c1 c2;go_enter Tryz.func126,Tryz.ntmps126;go_wp2;refine bodyPost_ret (v:=.tuple #[.agg #[.slice none 0 0,.slice none 0 0],.bool false]) (by simp[results,Tryz.results126,go_sem,z0,z1]) rfl ?_;exact⟨⟨none,0,0,none,0,0⟩,rfl,fun h=>absurd h.2 (Aa HC2),hB0⟩
 ·rw[decide_eq_false (fun h=>c1 h.1)];have n1:((xl.length:Int) != (yl.length:Int))=true:=by simp;omega
  obtain⟨z0,z1⟩:=cl2 Z0;obtain⟨q0,q1⟩:=fr2 Z0;have lZ:=lt_of_block Z0;simp at z0 z1;have HC2:=Ac c1;clear c1;go_enter Tryz.func126,Tryz.ntmps126;go_wp2;refine bodyPost_ret (v:=.tuple #[.agg #[.slice none 0 0,.slice none 0 0],.bool false]) (by simp[results,Tryz.results126,go_sem,z0,z1]) rfl ?_;exact⟨⟨none,0,0,none,0,0⟩,rfl,fun h=>absurd h.1 (Aa HC2),hB0⟩
structure Lw (S G:Nat) (w w':World):Prop where
 os:w'.os=w.os
 tape:w'.tape=w.tape
 output:w'.output=w.output
 size:w.heap.size≤w'.heap.size
 block:∀ k,k<w.heap.size→k≠S→k≠G→w'.heap[k]?=w.heap[k]?
 tys:∀ (k:Nat) (cs:Array Value),w.heap[k]?=some (.cells cs 39 (0,0))→w'.heap[k]?=some (.cells cs 39 (0,0))
theorem Lw.refl (S G:Nat) (w:World):Lw S G w w:=⟨rfl,rfl,rfl,Nat.le_refl _,fun _ _ _ _=>rfl,fun _ _ h=>h⟩
theorem Lw.trans {S G:Nat}{a b c:World} (h:Lw S G a b) (k:Lw S G b c):Lw S G a c :=
 ⟨k.os.trans h.os,k.tape.trans h.tape,k.output.trans h.output,Nat.le_trans h.size k.size,fun i hi h1 h2=>(k.block i (Nat.lt_of_lt_of_le hi h.size) h1 h2).trans (h.block i hi h1 h2),fun p n hp=>k.tys p n (h.tys p n hp)⟩
theorem Lw.of_below {S G:Nat}{w w':World} (h:Below w.heap.size w w'):Lw S G w w' :=
 ⟨h.os,h.tape,h.output,h.size,fun k hk _ _=>h.block k hk,fun p n hp=>(h.block p (lt_of_block hp)).trans hp⟩
theorem Lw.below {S G B:Nat}{w w':World} (h:Lw S G w w') (hS:B≤S) (hG:B≤G) (hB:B≤w.heap.size):Below B w w':=⟨h.os,h.tape,h.output,h.size,fun k hk=>h.block k (by omega) (by omega) (by omega)⟩
theorem Lw.set {S G:Nat}{w:World}{p:Addr}{cs0:Array Value}{t0:TypeId} (hp:p.block=S∨p.block=G) (h0:w.heap[p.block]?=some (.cells cs0 t0 (0,0))) (ht:t0≠39) (u:Value):Lw S G w (w.setCell p u) :=
 ⟨rfl,rfl,rfl,by simp[World.setCell],fun k _ h1 h2=>Below.heap_setCell _ _ _ _ (by rcases hp with h | h<;>rw[h]<;>assumption),fun q cs hq=>by
  have hne:q≠p.block:=by
   intro e;subst e;rw[h0]at hq;simp only[Option.some.injEq,Obj.cells.injEq]at hq;exact ht hq.2.1
  exact(Below.heap_setCell _ _ _ _ hne).trans hq⟩
theorem TyR.lw {S G:Nat}{w w':World}{v:Value}{l:List (Int × Int)} (h:TyR w v l) (k:Lw S G w w'):TyR w' v l:=by
 rcases h with h|⟨g,o,c,cur,hv,hg,h1,h2,h3⟩
 ·exact .inl h
 ·refine .inr ⟨g,o,c,cur,hv,k.tys g cur hg,h1,h2,fun j x hx=>?_⟩;rw[Ab (k.tys g cur hg),← Ab hg];exact h3 j x hx
theorem FrV.is.lw {S G:Nat}{v:FrV}{x:Zt}{w w':World} (h:v.is x w) (k:Lw S G w w'):v.is x w':=⟨h.lo.lw k,h.st.lw k,h.hl,h.hs⟩
structure SpC (cs:Array Value) (i:Nat) (v:FrV) (p:Ac7):Prop where
 c0:cs[i*5]?=some (.slice v.la v.ln v.lc)
 c1:cs[i*5+1]?=some (.slice v.sa v.sn v.sc)
 c2:cs[i*5+2]?=some (.bool p.st)
 c3:cs[i*5+3]?=some (.bool p.ri)
 c4:cs[i*5+4]?=some (.bool p.wa)
structure LsAt (w:World) (S G:Nat) (b:PBd) (gc:Nat) (s:Zv):Prop where
 blk:w.heap[S]?=some (O29 (some ⟨b.tg,0,none⟩) b.T.length b.tc b.ya b.yn b.yc b.cl b.nm b.pa b.pl b.pc b.r1 b.r2 b.lo b.st b.ca b.cn b.cc b.ha b.hl b.hc b.ma b.ml b.mc b.la b.L.length b.lc b.fa1 b.fl1 b.fc1 b.fa2 b.fl2 b.fc2 (some ⟨b.tg,0,none⟩) b.T.length b.tc b.ya b.yn b.yc b.cl b.nm b.pa b.pl b.pc b.r1 b.r2 b.lo b.st b.ca b.cn b.cc b.ha b.hl b.hc b.ma b.ml b.mc b.la b.L.length b.lc (some ⟨G,0,none⟩) s.sp.length gc s.hop)
 spt:∃ cs,w.heap[G]?=some (.cells cs 212 (0,0))∧cs.size=s.sp.length*5∧∀ i,i<s.sp.length→∃ v:FrV,SpC cs i v (s.at i)∧v.is (s.at i).fr w
 ne:S≠G
 len:s.sp.length≤1000
 cap:s.sp.length≤gc∧gc≤1000
theorem LsAt.below {w w':World}{S G:Nat}{b:PBd}{gc:Nat}{s:Zv} (h:LsAt w S G b gc s) (hb:Below w.heap.size w w'):LsAt w' S G b gc s:=by
 obtain⟨cs,h1,h2,h3⟩:=h.spt;exact⟨stay hb h.blk,⟨cs,stay hb h1,h2,fun i hi=>by obtain⟨v,a,c⟩:=h3 i hi;exact⟨v,a,c.below hb⟩⟩,h.ne,h.len,h.cap⟩
theorem LsAt.at {w:World}{S G:Nat}{b:PBd}{gc:Nat}{s:Zv} (h:LsAt w S G b gc s) {i:Nat} (hi:i<s.sp.length):∃ v:FrV,v.is (s.at i).fr w∧w.cell? ⟨G,i*5,none⟩=some (.slice v.la v.ln v.lc)∧w.cell? ⟨G,i*5+1,none⟩=some (.slice v.sa v.sn v.sc) ∧
  w.cell? ⟨G,i*5+2,none⟩=some (.bool (s.at i).st)∧w.cell? ⟨G,i*5+3,none⟩=some (.bool (s.at i).ri)∧w.cell? ⟨G,i*5+4,none⟩=some (.bool (s.at i).wa):=by
 obtain⟨cs,h1,h2,h3⟩:=h.spt;obtain⟨v,a,c⟩:=h3 i hi;exact⟨v,c,by rw[Ab h1];exact a.c0,by rw[Ab h1];exact a.c1,by rw[Ab h1];exact a.c2,by rw[Ab h1];exact a.c3,by rw[Ab h1];exact a.c4⟩
theorem LsAt.stop {w:World}{S G:Nat}{b:PBd}{gc:Nat}{s:Zv} (h:LsAt w S G b gc s):LsAt (w.setCell ⟨S,29,none⟩ (.bool true)) S G b gc s.stop∧Lw S G w (w.setCell ⟨S,29,none⟩ (.bool true)):=by
 have k:Lw S G w (w.setCell ⟨S,29,none⟩ (.bool true)):=Lw.set (p:=⟨S,29,none⟩) (.inl rfl) h.blk (by decide) _;obtain⟨cs,h1,h2,h3⟩:=h.spt;refine⟨⟨?_,⟨cs,?_,h2,fun i hi=>?_⟩,h.ne,h.len,h.cap⟩,k⟩
 ·rw[Ai h.blk];rfl
 ·exact(Below.heap_setCell _ _ _ _ (fun e=>h.ne e.symm)).trans h1
 ·obtain⟨v,a,c⟩:=h3 i hi;exact⟨v,a,c.lw k⟩
theorem Hg (s:Zv) (q:Nat) (p:Ac7) (hq:q<s.sp.length) (hop:Bool) (i:Nat):(⟨s.sp.set q p,hop⟩:Zv).at i=if i=q then p else s.at i:=by
 unfold Zv.at;simp only[List.getD_eq_getElem?_getD,List.getElem?_set];by_cases e:q=i
 ·subst e;simp[hq]
 ·rw[if_neg e,if_neg (fun h=>e h.symm)]
theorem LsAt.set {w:World}{S G:Nat}{b:PBd}{gc:Nat}{s:Zv} (h:LsAt w S G b gc s) {q j:Nat} (hq:q<s.sp.length) (hj:j<5) (u:Value) (p:Ac7)
  (hu:∀ cs v,SpC cs q v (s.at q)→cs.size=s.sp.length*5→v.is (s.at q).fr w→∃ v',SpC (cs.setIfInBounds (q*5+j) u) q v' p∧(v'.is p.fr w)) :
  LsAt (w.setCell ⟨G,q*5+j,none⟩ u) S G b gc ⟨s.sp.set q p,s.hop⟩∧Lw S G w (w.setCell ⟨G,q*5+j,none⟩ u):=by
 obtain⟨cs,h1,h2,h3⟩:=h.spt;have k:Lw S G w (w.setCell ⟨G,q*5+j,none⟩ u):=Lw.set (p:=⟨G,q*5+j,none⟩) (.inr rfl) h1 (by decide) _;refine⟨⟨?_,⟨_,Ai h1 u,by simpa using h2,fun i hi=>?_⟩,h.ne,by simpa using h.len,by simpa using h.cap⟩,k⟩
 ·refine(Below.heap_setCell _ _ _ _ (fun e=>h.ne e)).trans ?_
  simpa using h.blk
 ·simp only[List.length_set]at hi;rw[Hg s q p hq];by_cases e:i=q
  ·subst e;rw[if_pos rfl];obtain⟨v,a,c⟩:=h3 i hq;obtain⟨v',a',c'⟩:=hu cs v a h2 c;exact⟨v',a',c'.lw k⟩
  ·rw[if_neg e];obtain⟨v,a,c⟩:=h3 i hi;refine⟨v,⟨?_,?_,?_,?_,?_⟩,c.lw k⟩
   all_goals rw[Array.getElem?_setIfInBounds_ne (by omega)]
   ·exact a.c0
   ·exact a.c1
   ·exact a.c2
   ·exact a.c3
   ·exact a.c4
theorem Da {cs:Array Value}{i:Nat} (h:i<cs.size) (u:Value):(cs.setIfInBounds i u)[i]?=some u:=by rw[Array.getElem?_setIfInBounds_self,if_pos h]
theorem Be {cs:Array Value}{i k:Nat} (h:i≠k) (u:Value):(cs.setIfInBounds i u)[k]?=cs[k]?:=Array.getElem?_setIfInBounds_ne h
theorem LsAt.st {w:World}{S G:Nat}{b:PBd}{gc:Nat}{s:Zv} (h:LsAt w S G b gc s) {q:Nat} (hq:q<s.sp.length) (t:Bool):LsAt (w.setCell ⟨G,q*5+2,none⟩ (.bool t)) S G b gc ⟨s.sp.set q ⟨(s.at q).fr,t,(s.at q).ri,(s.at q).wa⟩,s.hop⟩∧Lw S G w (w.setCell ⟨G,q*5+2,none⟩ (.bool t)) :=
 h.set hq (by omega) _ _ fun cs v a hs c=>⟨v,⟨by rw[Be (by omega)];exact a.c0,by rw[Be (by omega)];exact a.c1,Da (by omega) _,by rw[Be (by omega)];exact a.c3,by rw[Be (by omega)];exact a.c4⟩,c⟩
theorem LsAt.ri {w:World}{S G:Nat}{b:PBd}{gc:Nat}{s:Zv} (h:LsAt w S G b gc s) {q:Nat} (hq:q<s.sp.length) (t:Bool):LsAt (w.setCell ⟨G,q*5+3,none⟩ (.bool t)) S G b gc ⟨s.sp.set q ⟨(s.at q).fr,(s.at q).st,t,(s.at q).wa⟩,s.hop⟩∧Lw S G w (w.setCell ⟨G,q*5+3,none⟩ (.bool t)) :=
 h.set hq (by omega) _ _ fun cs v a hs c=>⟨v,⟨by rw[Be (by omega)];exact a.c0,by rw[Be (by omega)];exact a.c1,by rw[Be (by omega)];exact a.c2,Da (by omega) _,by rw[Be (by omega)];exact a.c4⟩,c⟩
theorem LsAt.wa {w:World}{S G:Nat}{b:PBd}{gc:Nat}{s:Zv} (h:LsAt w S G b gc s) {q:Nat} (hq:q<s.sp.length) (t:Bool):LsAt (w.setCell ⟨G,q*5+4,none⟩ (.bool t)) S G b gc ⟨s.sp.set q ⟨(s.at q).fr,(s.at q).st,(s.at q).ri,t⟩,s.hop⟩∧Lw S G w (w.setCell ⟨G,q*5+4,none⟩ (.bool t)) :=
 h.set hq (by omega) _ _ fun cs v a hs c=>⟨v,⟨by rw[Be (by omega)];exact a.c0,by rw[Be (by omega)];exact a.c1,by rw[Be (by omega)];exact a.c2,by rw[Be (by omega)];exact a.c3,Da (by omega) _⟩,c⟩
theorem LsAt.fr {w:World}{S G:Nat}{b:PBd}{gc:Nat}{s:Zv} (h:LsAt w S G b gc s) {q:Nat} (hq:q<s.sp.length) {u:FrV}{y:Zt} (hu:u.is y w) :
  LsAt ((w.setCell ⟨G,q*5,none⟩ (.slice u.la u.ln u.lc)).setCell ⟨G,q*5+1,none⟩ (.slice u.sa u.sn u.sc)) S G b gc ⟨s.sp.set q ⟨y,(s.at q).st,(s.at q).ri,(s.at q).wa⟩,s.hop⟩ ∧
  Lw S G w ((w.setCell ⟨G,q*5,none⟩ (.slice u.la u.ln u.lc)).setCell ⟨G,q*5+1,none⟩ (.slice u.sa u.sn u.sc)):=by
 obtain⟨g1,k1⟩:=h.set (j:=0) hq (by omega) (.slice u.la u.ln u.lc) ⟨⟨y.locals,(s.at q).fr.stack⟩,(s.at q).st,(s.at q).ri,(s.at q).wa⟩ fun cs v a hs c =>
  ⟨⟨u.la,u.ln,u.lc,v.sa,v.sn,v.sc⟩,⟨Da (by omega) _,by rw[Be (by omega)];exact a.c1,by rw[Be (by omega)];exact a.c2,by rw[Be (by omega)];exact a.c3,by rw[Be (by omega)];exact a.c4⟩,⟨hu.lo,c.st,hu.hl,c.hs⟩⟩
 have e:=Hg s q ⟨⟨y.locals,(s.at q).fr.stack⟩,(s.at q).st,(s.at q).ri,(s.at q).wa⟩ hq s.hop q;rw[if_pos rfl]at e;have hu1:=hu.lw k1;obtain⟨g2,k2⟩:=g1.set (j:=1) (q:=q) (by simpa using hq) (by omega) (.slice u.sa u.sn u.sc) ⟨y,(s.at q).st,(s.at q).ri,(s.at q).wa⟩ fun cs v a hs c=>by
  rw[e]at a c;simp only[List.length_set]at hs;exact⟨⟨v.la,v.ln,v.lc,u.sa,u.sn,u.sc⟩,⟨by rw[Be (by omega)];exact a.c0,Da (by omega) _,by rw[Be (by omega)];exact a.c2,by rw[Be (by omega)];exact a.c3,by rw[Be (by omega)];exact a.c4⟩,⟨c.lo,hu1.st,c.hl,hu1.hs⟩⟩
 simp only[List.set_set]at g2;exact⟨g2,k1.trans k2⟩
theorem LsAt.put2 {w:World}{S G:Nat}{b:PBd}{gc:Nat}{s:Zv}{q:Nat}{y:Zt} (hq:q<s.sp.length) (g1:LsAt w S G b gc ⟨s.sp.set q ⟨y,(s.at q).st,(s.at q).ri,(s.at q).wa⟩,s.hop⟩) :
  LsAt ((w.setCell ⟨G,q*5+2,none⟩ (.bool true)).setCell ⟨G,q*5+3,none⟩ (.bool true)) S G b gc (s.put q y)∧Lw S G w ((w.setCell ⟨G,q*5+2,none⟩ (.bool true)).setCell ⟨G,q*5+3,none⟩ (.bool true)):=by
 obtain⟨g2,k2⟩:=g1.st (q:=q) (by simpa using hq) true;have e1:=Hg s q ⟨y,(s.at q).st,(s.at q).ri,(s.at q).wa⟩ hq s.hop q;rw[if_pos rfl]at e1;rw[e1]at g2;simp only[List.set_set]at g2;obtain⟨g3,k3⟩:=g2.ri (q:=q) (by simpa using hq) true;have e2:=Hg s q ⟨y,true,(s.at q).ri,(s.at q).wa⟩ hq s.hop q;rw[if_pos rfl]at e2;rw[e2]at g3;simp only[List.set_set]at g3;exact⟨g3,k2.trans k3⟩
theorem LsAt.free {w:World}{S G:Nat}{b:PBd}{gc:Nat}{s:Zv} (h:LsAt w S G b gc s) (i:Nat):w.frozen? ⟨G,i,none⟩=false∧G<w.heap.size:=by
 obtain⟨cs,h1,_⟩:=h.spt;exact⟨Ae h1 i,lt_of_block h1⟩
theorem LsAt.put1 {w:World}{S G:Nat}{b:PBd}{gc:Nat}{s:Zv}{q:Nat}{y:Zt} (hq:q<s.sp.length) (g1:LsAt w S G b gc ⟨s.sp.set q ⟨y,(s.at q).st,(s.at q).ri,(s.at q).wa⟩,s.hop⟩) :
  w.cell? ⟨S,28,none⟩=some (.slice (some ⟨G,0,none⟩) s.sp.length gc)∧S<w.heap.size∧w.cell? ⟨G,q*5+2,none⟩=some (.bool (s.at q).st)∧w.cell? ⟨G,q*5+3,none⟩=some (.bool (s.at q).ri)∧w.frozen? ⟨G,q*5+2,none⟩=false∧w.frozen? ⟨G,q*5+3,none⟩=false∧G<w.heap.size:=by
 obtain⟨u,_,_,_,z2,z3,_⟩:=g1.at (i:=q) (by simpa using hq);rw[Hg s q _ hq,if_pos rfl]at z2 z3;have x28:=Ab g1.blk 28;simp at x28;exact⟨x28,lt_of_block g1.blk,z2,z3,(g1.free _).1,(g1.free _).1,(g1.free 0).2⟩
theorem LsAt.box {w:World}{S G:Nat}{b:PBd}{gc:Nat}{s:Zv} (h:LsAt w S G b gc s) {g:Nat}{a1 a2:Option Addr}{n1 c1 n2 c2:Nat}{ty:TypeId} (hg:w.heap[g]?=some (.cells #[.slice a1 n1 c1,.slice a2 n2 c2] ty (0,0))) (h1:g≠S) (h2:g≠G) (x y:Value):LsAt ((w.setCell ⟨g,0,none⟩ x).setCell ⟨g,1,none⟩ y) S G b gc s:=by
 obtain⟨cs,e1,e2,e3⟩:=h.spt;exact⟨(It (fun e=>h1 e.symm)).trans h.blk,⟨cs,(It (fun e=>h2 e.symm)).trans e1,e2,fun i hi=>by obtain⟨v,a,c⟩:=e3 i hi;exact⟨v,a,c.set2 hg _ _⟩⟩,h.ne,h.len,h.cap⟩
theorem Lw.box {S G:Nat}{w w':World} (h:Lw S G w w') {g:Nat} (hg:w.heap.size≤g) (x y:Value):Lw S G w ((w'.setCell ⟨g,0,none⟩ x).setCell ⟨g,1,none⟩ y) :=
 ⟨h.os,h.tape,h.output,by have:=h.size;simpa[World.setCell] using this,fun k hk e1 e2=>(It (by omega)).trans (h.block k hk e1 e2),fun p cs hp=>by
  have:=lt_of_block hp;exact(It (by omega)).trans (h.tys p cs hp)⟩
theorem Hp (b:PBd) (S G gc:Nat) (s:Zv) (v:FrV) (x:Zt) (q:Int) (w:World) (hl:b.T.length≤1000) (hT:TreeIn w b.tg b.T) (h:LsAt w S G b gc s) (hv:v.is x w) :
  Calls Tryz.prog 79 #[.pointer (some ⟨S,0,none⟩),v.val,.int .i64 q] w fun e w'=>e=.returned (.tuple #[])∧LsAt w' S G b gc (Aaf b.T b.st x q s)∧Lw S G w w':=by
 obtain⟨la,ln,lc,sa,sn,sc⟩:=v;obtain⟨esn,-,-⟩:=hv.st.cap;obtain⟨eln,-,-⟩:=hv.lo.cap;obtain⟨xl,xs⟩:=x;simp only at esn eln;subst esn eln;have hb1:Below w.heap.size w (w.alloc (O27 la xl.length lc sa xs.length sc)):=QN _;have h1:=h.below hb1;have A1:=Ad w (O27 la xl.length lc sa xs.length sc);have k1:Lw S G w (w.alloc (O27 la xl.length lc sa xs.length sc)):=Lw.of_below hb1;have hv1:=hv.below hb1;have hT1:=hT.below hb1;obtain⟨a0,a1⟩:=cl2 A1;have x0:=Ab h1.blk 0;have x1:=Ab h1.blk 1;have x8:=Ab h1.blk 8;have x28:=Ab h1.blk 28;have x29:=Ab h1.blk 29;have f29:=Ae h1.blk 29;have lS:=lt_of_block h1.blk;simp at a0 a1 x0 x1 x8 x28 x29;have hlen:=h.len;have hSw:S<w.heap.size:=lt_of_block h.blk;have hGw:G<w.heap.size:=(h.free 0).2;have hcap:=h.cap;unfold Aaf;simp only[FrV.val];by_cases c1:q<0
 ·rw[if_pos (.inl c1)];clear h hv hv1 hT hT1;go_enter Tryz.func79,Tryz.ntmps79;go_wp2
  go_quiet (fail)
  rename_i nq;have hbq:Below (w.alloc (O27 la xl.length lc sa xs.length sc)).heap.size (w.alloc (O27 la xl.length lc sa xs.length sc)) ((w.alloc (O27 la xl.length lc sa xs.length sc)).drewN nq):=Bg (Below.refl _ _);have h2:=h1.below hbq;have z29:=Ab h2.blk 29;have q29:=Ae h2.blk 29;have lS2:=lt_of_block h2.blk;simp at z29;obtain⟨g3,k3⟩:=h2.stop;have K3:=(k1.trans (Lw.of_below hbq)).trans k3;clear h1 h2 k1 k3 hbq;go_wp2;refine bodyPost_ret (v:=.tuple #[]) (by simp[results,Tryz.results79,go_sem]) rfl ?_;exact⟨rfl,g3,K3⟩
 ·obtain⟨k,rfl⟩:∃ k:Nat,q=(k:Int):=⟨q.toNat,by omega⟩;have d1:decide ((k:Int)<0)=false:=decide_eq_false c1;by_cases c2:(s.sp.length:Int)≤(k:Int)
  ·rw[if_pos (.inr (.inl c2))];clear h hv hv1 hT hT1;go_enter Tryz.func79,Tryz.ntmps79;go_wp2
   go_quiet (fail)
   rename_i nq;have hbq:Below (w.alloc (O27 la xl.length lc sa xs.length sc)).heap.size (w.alloc (O27 la xl.length lc sa xs.length sc)) ((w.alloc (O27 la xl.length lc sa xs.length sc)).drewN nq):=Bg (Below.refl _ _);have h2:=h1.below hbq;have z29:=Ab h2.blk 29;have q29:=Ae h2.blk 29;have lS2:=lt_of_block h2.blk;simp at z29;obtain⟨g3,k3⟩:=h2.stop;have K3:=(k1.trans (Lw.of_below hbq)).trans k3;clear h1 h2 k1 k3 hbq;go_wp2;refine bodyPost_ret (v:=.tuple #[]) (by simp[results,Tryz.results79,go_sem]) rfl ?_;exact⟨rfl,g3,K3⟩
  ·have d2:decide (s.sp.length≤k)=false:=decide_eq_false (by omega);by_cases c3:b.st<(xs.length:Int)
   ·rw[if_pos (.inr (.inr c3))];clear h hv hv1 hT hT1;go_enter Tryz.func79,Tryz.ntmps79;go_wp2
    go_quiet (fail)
    rename_i nq;have hbq:Below (w.alloc (O27 la xl.length lc sa xs.length sc)).heap.size (w.alloc (O27 la xl.length lc sa xs.length sc)) ((w.alloc (O27 la xl.length lc sa xs.length sc)).drewN nq):=Bg (Below.refl _ _);have h2:=h1.below hbq;have z29:=Ab h2.blk 29;have q29:=Ae h2.blk 29;have lS2:=lt_of_block h2.blk;simp at z29;obtain⟨g3,k3⟩:=h2.stop;have K3:=(k1.trans (Lw.of_below hbq)).trans k3;clear h1 h2 k1 k3 hbq;go_wp2;refine bodyPost_ret (v:=.tuple #[]) (by simp[results,Tryz.results79,go_sem]) rfl ?_;exact⟨rfl,g3,K3⟩
   ·rw[if_neg (by omega)];have d3:decide (b.st<(xs.length:Int))=false:=decide_eq_false c3;have hk:k<s.sp.length:=by omega
    have kb:(k:Int)<(s.sp.length:Int):=by omega
    have ek:((k:Int)).toNat=k:=by simp
    rw[ek];obtain⟨u,hu,z0,z1,z2,z3,z4⟩:=h1.at hk;obtain⟨ua,un,uc,va,vn,vc⟩:=u;simp only at z0 z1;have lG:=(h1.free 0).2;generalize hst:(s.at k).st=st at *;generalize hri:(s.at k).ri=ri at *;generalize hwa:(s.at k).wa=wa at *;cases st with
    | false =>
     rw[if_pos rfl];go_enter Tryz.func79,Tryz.ntmps79;go_wp2
     go_quiet (fail)
     rename_i nq;have hbq:Below (w.alloc (O27 la xl.length lc sa xs.length sc)).heap.size (w.alloc (O27 la xl.length lc sa xs.length sc)) (((w.alloc (O27 la xl.length lc sa xs.length sc)).drewN nq).alloc (O30 ua un uc va vn vc false ri wa)):=(Bg (Below.refl (w.alloc (O27 la xl.length lc sa xs.length sc)).heap.size (w.alloc (O27 la xl.length lc sa xs.length sc)))).alloc (Nat.le_refl (w.alloc (O27 la xl.length lc sa xs.length sc)).heap.size) _;have h2:=h1.below hbq;have P2:(((w.alloc (O27 la xl.length lc sa xs.length sc)).drewN nq).alloc (O30 ua un uc va vn vc false ri wa)).heap[w.heap.size+1]?=some (O30 ua un uc va vn vc false ri wa):=Ag w (O27 la xl.length lc sa xs.length sc) _;have A2:=stay hbq A1;have hv2:=hv1.below hbq;have hu2:=hu.below hbq;have hT2:=hT1.below hbq;have K2:=k1.trans (Lw.of_below hbq);go_wp2;clear h1 A1 hv1 hu hT1 k1 hbq a0 a1 x0 x1 x8 x28 x29 f29 lS z0 z1 z2 z3 z4 hv hT h hb1 lG;generalize ((w.alloc (O27 la xl.length lc sa xs.length sc)).drewN nq).alloc (O30 ua un uc va vn vc false ri wa)=w2 at *;obtain⟨a0,a1⟩:=cl2 A2;obtain⟨p0,p1,p2⟩:=cl3 P2;have x0:=Ab h2.blk 0;have x1:=Ab h2.blk 1;have lA:=lt_of_block A2;have lP:=lt_of_block P2;have lS:=lt_of_block h2.blk;simp at a0 a1 p0 p1 p2 x0 x1
     go_quiet (fail)
     have hbq:Below w2.heap.size w2 (w2.drewN nq):=Bg (Below.refl _ _);have h3:=h2.below hbq;have A3:=stay hbq A2;have hv3:=hv2.below hbq;have K3:=K2.trans (Lw.of_below hbq);go_wp2;clear h2 A2 P2 hv2 hu2 hT2 K2 hbq a0 a1 p0 p1 p2 x0 x1 lA lP lS;generalize w2.drewN nq=w3 at *;have x28:=Ab h3.blk 28;obtain⟨a0,a1⟩:=cl2 A3;have lA:=lt_of_block A3;have lS:=lt_of_block h3.blk;obtain⟨u9,-,z0,z1,z2,z3,-⟩:=h3.at hk;obtain⟨ua9,un9,uc9,va9,vn9,vc9⟩:=u9;have f0:=(h3.free (k*5)).1;have f1:=(h3.free (k*5+1)).1;have f2:=(h3.free (k*5+2)).1;have f3:=(h3.free (k*5+3)).1;have lG:=(h3.free 0).2;simp only at z0 z1;simp at a0 a1 x28
     go_region
     obtain⟨g4,k4⟩:=h3.fr (u:=⟨la,xl.length,lc,sa,xs.length,sc⟩) hk hv3;have hd:=fun w':World=>(Below.refl w'.heap.size w').drew;have g5:=g4.below (hd _);have K5:=(K3.trans k4).trans (Lw.of_below (hd _));obtain⟨y28,lS5,y2,y3,q2,q3,lG5⟩:=g5.put1 hk;rw[hst]at y2;rw[hri]at y3;clear h3 A3 hv3 K3 x28 a0 a1 lA lS z0 z1 z2 z3 f0 f1 f2 f3 lG g4 k4 hd;generalize ((w3.setCell ⟨G,k*5,none⟩ (.slice la xl.length lc)).setCell ⟨G,k*5+1,none⟩ (.slice sa xs.length sc)).drew=w5 at *;go_wp2
     go_end0
     obtain⟨g6,k6⟩:=LsAt.put2 hk g5;exact⟨rfl,g6,K5.trans k6⟩
    | true =>
     rw[if_neg (by simp)];have hF:=fun w' hT' hu' hv'=>Vf (ya:=b.ya) (yn:=b.yn) (yc:=b.yc) b.T b.tg b.tc ⟨la,xl.length,lc,sa,xs.length,sc⟩ ⟨ua,un,uc,va,vn,vc⟩ ⟨xl,xs⟩ (s.at k).fr w' hl hT' hu' hv';have hJ:=fun w' hT' hu' hv'=>Uf (ya:=b.ya) (yn:=b.yn) (yc:=b.yc) b.T b.tg b.tc ⟨la,xl.length,lc,sa,xs.length,sc⟩ ⟨ua,un,uc,va,vn,vc⟩ ⟨xl,xs⟩ (s.at k).fr w' hl hT' hu' hv';simp only[FrV.val]at hF hJ;generalize hfr:(s.at k).fr=fr at *;generalize Acb b.T ⟨xl,xs⟩ fr=FB at *;have HF:=Ac hF;have HJ:=Ac hJ;clear hF hJ;cases FB with
     | true =>
      rw[if_pos rfl];go_enter Tryz.func79,Tryz.ntmps79;go_wp2
      go_quiet (fail)
      rename_i nq;have hbq:Below (w.alloc (O27 la xl.length lc sa xs.length sc)).heap.size (w.alloc (O27 la xl.length lc sa xs.length sc)) (((w.alloc (O27 la xl.length lc sa xs.length sc)).drewN nq).alloc (O30 ua un uc va vn vc true ri wa)):=(Bg (Below.refl (w.alloc (O27 la xl.length lc sa xs.length sc)).heap.size (w.alloc (O27 la xl.length lc sa xs.length sc)))).alloc (Nat.le_refl (w.alloc (O27 la xl.length lc sa xs.length sc)).heap.size) _;have h2:=h1.below hbq;have P2:(((w.alloc (O27 la xl.length lc sa xs.length sc)).drewN nq).alloc (O30 ua un uc va vn vc true ri wa)).heap[w.heap.size+1]?=some (O30 ua un uc va vn vc true ri wa):=Ag w (O27 la xl.length lc sa xs.length sc) _;have A2:=stay hbq A1;have hv2:=hv1.below hbq;have hu2:=hu.below hbq;have hT2:=hT1.below hbq;have K2:=k1.trans (Lw.of_below hbq);go_wp2;clear h1 A1 hv1 hu hT1 k1 hbq a0 a1 x0 x1 x8 x28 x29 f29 lS z0 z1 z2 z3 z4 hv hT h hb1 lG;generalize ((w.alloc (O27 la xl.length lc sa xs.length sc)).drewN nq).alloc (O30 ua un uc va vn vc true ri wa)=w2 at *;obtain⟨a0,a1⟩:=cl2 A2;obtain⟨p0,p1,p2⟩:=cl3 P2;have x0:=Ab h2.blk 0;have x1:=Ab h2.blk 1;have lA:=lt_of_block A2;have lP:=lt_of_block P2;have lS:=lt_of_block h2.blk;simp at a0 a1 p0 p1 p2 x0 x1;have hf2:=Aa HF w2.drew (hT2.below (Below.refl _ _).drew) (hv2.below (Below.refl _ _).drew) (hu2.below (Below.refl _ _).drew);have HF2:=Ac hf2;clear hf2
      go_region_held3 (fun w'=>w'.cell? ⟨w.heap.size,0,none⟩=some (.slice la xl.length lc)∧w'.cell? ⟨w.heap.size,1,none⟩=some (.slice sa xs.length sc)∧w'.cell? ⟨w.heap.size+1,0,none⟩=some (.slice ua un uc)∧w'.cell? ⟨w.heap.size+1,1,none⟩=some (.slice va vn vc)∧w'.cell? ⟨w.heap.size+1,2,none⟩=some (.bool true)∧w'.cell? ⟨S,0,none⟩=some (.slice (some ⟨b.tg,0,none⟩) b.T.length b.tc)∧w'.cell? ⟨S,1,none⟩=some (.slice b.ya b.yn b.yc))
       (first | exact⟨a0,a1,p0,p1,p2,x0,x1⟩ | exact⟨QC hb7 lA a0,QC hb7 lA a1,QC hb7 lP p0,QC hb7 lP p1,QC hb7 lP p2,QC hb7 lS x0,QC hb7 lS x1⟩)
       (first | (go_at_call 125;refine(Aa HF2).mono ?_;rintro e w7 ⟨rfl,hb7⟩))
      have hb8:Below w2.heap.size w2 w7:=(Below.refl _ _).drew.trans hb7;have g8:=h2.below hb8;have K8:=K2.trans (Lw.of_below hb8);go_wp2;refine bodyPost_ret (v:=.tuple #[]) (by simp[results,Tryz.results79,go_sem]) rfl ?_;exact⟨rfl,g8,K8⟩
     | false =>
      rw[if_neg (by simp)];by_cases hcan:xl.length=fr.locals.length∧xs.length=fr.stack.length
      ·rw[if_pos hcan];have HCAN:=Ac hcan;clear hcan;go_enter Tryz.func79,Tryz.ntmps79;go_wp2
       go_quiet (fail)
       rename_i nq;have hbq:Below (w.alloc (O27 la xl.length lc sa xs.length sc)).heap.size (w.alloc (O27 la xl.length lc sa xs.length sc)) (((w.alloc (O27 la xl.length lc sa xs.length sc)).drewN nq).alloc (O30 ua un uc va vn vc true ri wa)):=(Bg (Below.refl (w.alloc (O27 la xl.length lc sa xs.length sc)).heap.size (w.alloc (O27 la xl.length lc sa xs.length sc)))).alloc (Nat.le_refl (w.alloc (O27 la xl.length lc sa xs.length sc)).heap.size) _;have h2:=h1.below hbq;have P2:(((w.alloc (O27 la xl.length lc sa xs.length sc)).drewN nq).alloc (O30 ua un uc va vn vc true ri wa)).heap[w.heap.size+1]?=some (O30 ua un uc va vn vc true ri wa):=Ag w (O27 la xl.length lc sa xs.length sc) _;have A2:=stay hbq A1;have hv2:=hv1.below hbq;have hu2:=hu.below hbq;have hT2:=hT1.below hbq;have K2:=k1.trans (Lw.of_below hbq);go_wp2;clear h1 A1 hv1 hu hT1 k1 hbq a0 a1 x0 x1 x8 x28 x29 f29 lS z0 z1 z2 z3 z4 hv hT h hb1 lG;generalize ((w.alloc (O27 la xl.length lc sa xs.length sc)).drewN nq).alloc (O30 ua un uc va vn vc true ri wa)=w2 at *;obtain⟨a0,a1⟩:=cl2 A2;obtain⟨p0,p1,p2⟩:=cl3 P2;have x0:=Ab h2.blk 0;have x1:=Ab h2.blk 1;have lA:=lt_of_block A2;have lP:=lt_of_block P2;have lS:=lt_of_block h2.blk;simp at a0 a1 p0 p1 p2 x0 x1;have hf2:=Aa HF w2.drew (hT2.below (Below.refl _ _).drew) (hv2.below (Below.refl _ _).drew) (hu2.below (Below.refl _ _).drew);have HF2:=Ac hf2;clear hf2
       go_region_held3 (fun w'=>w'.cell? ⟨w.heap.size,0,none⟩=some (.slice la xl.length lc)∧w'.cell? ⟨w.heap.size,1,none⟩=some (.slice sa xs.length sc)∧w'.cell? ⟨w.heap.size+1,0,none⟩=some (.slice ua un uc)∧w'.cell? ⟨w.heap.size+1,1,none⟩=some (.slice va vn vc)∧w'.cell? ⟨w.heap.size+1,2,none⟩=some (.bool true)∧w'.cell? ⟨S,0,none⟩=some (.slice (some ⟨b.tg,0,none⟩) b.T.length b.tc)∧w'.cell? ⟨S,1,none⟩=some (.slice b.ya b.yn b.yc))
        (first | exact⟨a0,a1,p0,p1,p2,x0,x1⟩ | exact⟨QC hb7 lA a0,QC hb7 lA a1,QC hb7 lP p0,QC hb7 lP p1,QC hb7 lP p2,QC hb7 lS x0,QC hb7 lS x1⟩)
        (first | (go_at_call 125;refine(Aa HF2).mono ?_;rintro e w7 ⟨rfl,hb7⟩))
       have hb8:Below w2.heap.size w2 w7:=(Below.refl _ _).drew.trans hb7;have h7:=h2.below hb8;have A7:=stay hb8 A2;have P7:=stay hb8 P2;have K7:=K2.trans (Lw.of_below hb8);have hv7:=hv2.below hb8;have hu7:=hu2.below hb8;have hT7:=hT2.below hb8;clear h2 A2 P2 K2 hv2 hu2 hT2 hb7 hb8 a0 a1 p0 p1 p2 x0 x1 lA lP lS HF2;obtain⟨a0,a1⟩:=cl2 A7;obtain⟨p0,p1,p2⟩:=cl3 P7;have x0:=Ab h7.blk 0;have x1:=Ab h7.blk 1;have lA:=lt_of_block A7;have lP:=lt_of_block P7;have lS:=lt_of_block h7.blk;simp at a0 a1 p0 p1 p2 x0 x1
       go_upto_region 6 with fail
       go_cut [7,8] from 9 (fun s7 s8 wx=>∃ (jb:Nat) (z:FrV),s7=.pointer (some ⟨jb,0,none⟩)∧s8=.bool true∧wx.heap[jb]?=some (O27 z.la z.ln z.lc z.sa z.sn z.sc)∧FrV.is z (Aa1 b.T ⟨xl,xs⟩ fr) wx∧Below w7.heap.size w7 wx)
       case first =>
        have hF6:w7.drew.cell? ⟨w.heap.size,0,none⟩=some (.slice la xl.length lc)∧w7.drew.cell? ⟨w.heap.size,1,none⟩=some (.slice sa xs.length sc)∧w7.drew.cell? ⟨w.heap.size+1,0,none⟩=some (.slice ua un uc)∧w7.drew.cell? ⟨w.heap.size+1,1,none⟩=some (.slice va vn vc)∧w7.drew.cell? ⟨S,0,none⟩=some (.slice (some ⟨b.tg,0,none⟩) b.T.length b.tc)∧w7.drew.cell? ⟨S,0+1,none⟩=some (.slice b.ya b.yn b.yc):=⟨a0,a1,p0,p1,x0,x1⟩;have hBZ:Below w7.drew.heap.size w7.drew (w7.alloc (O27 none 0 0 none 0 0)).drew:=⟨rfl,rfl,rfl,(show w7.heap.size≤(w7.alloc (O27 none 0 0 none 0 0)).heap.size by simp),fun k hk=>(((Below.refl _ w7).alloc (Nat.le_refl _) (O27 none 0 0 none 0 0)).block k hk)⟩;have lZ:w7.drew.heap.size≤(w7.alloc (O27 none 0 0 none 0 0)).drew.heap.size:=hBZ.size;have Z0:(w7.alloc (O27 none 0 0 none 0 0)).drew.heap[w7.heap.size]?=some (O27 none 0 0 none 0 0):=Ad w7 _;have hd7:Below w7.heap.size w7 w7.drew:=(Below.refl _ _).drew;have hz7:Below w7.heap.size w7 (w7.alloc (O27 none 0 0 none 0 0)).drew:=hd7.trans hBZ;replace lA:w.heap.size<w7.drew.heap.size:=lA;replace lP:w.heap.size+1<w7.drew.heap.size:=lP;replace lS:S<w7.drew.heap.size:=lS;have hj1:=Aa HJ w7.drew (hT7.below hd7) (hv7.below hd7) (hu7.below hd7);have hj2:=Aa HJ (w7.alloc (O27 none 0 0 none 0 0)).drew (hT7.below hz7) (hv7.below hz7) (hu7.below hz7);rw[decide_eq_true (Aa HCAN)]at hj1 hj2;have HJ1:=Ac hj1;have HJ2:=Ac hj2;clear hj1 hj2;go_wp2
        go_region_held3 (fun w'=>w'.cell? ⟨w.heap.size,0,none⟩=some (.slice la xl.length lc)∧w'.cell? ⟨w.heap.size,1,none⟩=some (.slice sa xs.length sc)∧w'.cell? ⟨w.heap.size+1,0,none⟩=some (.slice ua un uc)∧w'.cell? ⟨w.heap.size+1,1,none⟩=some (.slice va vn vc)∧w'.cell? ⟨S,0,none⟩=some (.slice (some ⟨b.tg,0,none⟩) b.T.length b.tc)∧w'.cell? ⟨S,0+1,none⟩=some (.slice b.ya b.yn b.yc))
         (first | (with_reducible exact hF6) | (with_reducible exact Br lA lP lS hF6 hb9) | (with_reducible exact Br lA lP lS hF6 (hb9.alloc hb9.size _)) | (with_reducible exact Br lA lP lS hF6 hBZ) | (with_reducible exact Br lA lP lS hF6 (hBZ.trans (hb9.mono lZ))) | (with_reducible exact Br lA lP lS hF6 ((hBZ.trans (hb9.mono lZ)).setCell (Nat.le_refl _) _)) | (with_reducible exact Br lA lP lS hF6 (((hBZ.trans (hb9.mono lZ)).setCell (Nat.le_refl _) _).setCell (Nat.le_refl _) _)))
         (first | (go_at_call 126;refine(Aa HJ1).mono ?_;rintro e w9 ⟨z,rfl,hz,hb9⟩;obtain⟨ja,jn,jc,ka,kn,kc⟩:=z;simp only[FrV.val]) | (go_at_call 126;refine(Aa HJ2).mono ?_;rintro e w9 ⟨z,rfl,hz,hb9⟩;obtain⟨ja,jn,jc,ka,kn,kc⟩:=z;simp only[FrV.val];have Z9:=stay hb9 Z0;have z0':=Ab Z9 0;have z1':=Ab Z9 1;have q0':=Ae Z9 0;have q1':=Ae Z9 1;simp at z0' z1'))
        all_goals
         go_wp2
         go_meet
        ·exact⟨_,⟨ja,jn,jc,ka,kn,kc⟩,rfl,rfl,Ad w9 _,(hz (Aa HCAN)).below (QN _),(hd7.trans (hb9.mono (Nat.le_refl _))).alloc (Nat.le_trans (Nat.le_refl _) hb9.size) _⟩
        ·exact⟨_,⟨ja,jn,jc,ka,kn,kc⟩,rfl,rfl,Es Z9 _ _,(hz (Aa HCAN)).set2 Z9 _ _,((QB hz7 hb9).setCell (Nat.le_refl _) _).setCell (Nat.le_refl _) _⟩
       case rest =>
        obtain⟨jb,z,rfl,rfl,ZB,hz9,hb9⟩:=hcut;obtain⟨ja,jn,jc,ka,kn,kc⟩:=z;simp only at ZB;have h9:=h7.below hb9;have A9:=stay hb9 A7;have K9:=K7.trans (Lw.of_below hb9);clear h7 A7 P7 K7 hv7 hu7 hT7 hb9 a0 a1 p0 p1 p2 x0 x1 lA lP lS;obtain⟨y0,y1⟩:=cl2 ZB;obtain⟨a0,a1⟩:=cl2 A9;obtain⟨q0,q1⟩:=fr2 A9;have lJ:=lt_of_block ZB;have lA:=lt_of_block A9;simp at a0 a1 y0 y1;have h3:=h9.box A9 (by omega) (by omega) (.slice ja jn jc) (.slice ka kn kc);have A3:=Es A9 (.slice ja jn jc) (.slice ka kn kc);have hv3:=hz9.set2 A9 (.slice ja jn jc) (.slice ka kn kc);have K3:=K9.box (g:=w.heap.size) (Nat.le_refl _) (.slice ja jn jc) (.slice ka kn kc)
        go_upto_region 10 with fail
        clear h9 A9 hz9 K9 ZB y0 y1 a0 a1 q0 q1 lJ lA;generalize ((wc.setCell ⟨w.heap.size,0,none⟩ (.slice ja jn jc)).setCell ⟨w.heap.size,1,none⟩ (.slice ka kn kc))=w3 at *;have x28:=Ab h3.blk 28;obtain⟨a0,a1⟩:=cl2 A3;have lA:=lt_of_block A3;have lS:=lt_of_block h3.blk;obtain⟨u9,-,z0,z1,z2,z3,-⟩:=h3.at hk;obtain⟨ua9,un9,uc9,va9,vn9,vc9⟩:=u9;have f0:=(h3.free (k*5)).1;have f1:=(h3.free (k*5+1)).1;have f2:=(h3.free (k*5+2)).1;have f3:=(h3.free (k*5+3)).1;have lG:=(h3.free 0).2;simp only at z0 z1;simp at a0 a1 x28
        go_region
        obtain⟨g4,k4⟩:=h3.fr (u:=⟨ja,jn,jc,ka,kn,kc⟩) hk hv3;have hd:=fun w':World=>(Below.refl w'.heap.size w').drew;have g5:=g4.below (hd _);have K5:=(K3.trans k4).trans (Lw.of_below (hd _));obtain⟨y28,lS5,y2,y3,q2,q3,lG5⟩:=g5.put1 hk;rw[hst]at y2;rw[hri]at y3;clear h3 A3 hv3 K3 x28 a0 a1 lA lS z0 z1 z2 z3 f0 f1 f2 f3 lG g4 k4 hd;generalize ((w3.setCell ⟨G,k*5,none⟩ (.slice ja jn jc)).setCell ⟨G,k*5+1,none⟩ (.slice ka kn kc)).drew=w5 at *;go_wp2
        go_end0
        obtain⟨g6,k6⟩:=LsAt.put2 hk g5;exact⟨rfl,g6,K5.trans k6⟩
      ·rw[if_neg hcan];have HCAN:=Ac hcan;clear hcan;go_enter Tryz.func79,Tryz.ntmps79;go_wp2
       go_quiet (fail)
       rename_i nq;have hbq:Below (w.alloc (O27 la xl.length lc sa xs.length sc)).heap.size (w.alloc (O27 la xl.length lc sa xs.length sc)) (((w.alloc (O27 la xl.length lc sa xs.length sc)).drewN nq).alloc (O30 ua un uc va vn vc true ri wa)):=(Bg (Below.refl (w.alloc (O27 la xl.length lc sa xs.length sc)).heap.size (w.alloc (O27 la xl.length lc sa xs.length sc)))).alloc (Nat.le_refl (w.alloc (O27 la xl.length lc sa xs.length sc)).heap.size) _;have h2:=h1.below hbq;have P2:(((w.alloc (O27 la xl.length lc sa xs.length sc)).drewN nq).alloc (O30 ua un uc va vn vc true ri wa)).heap[w.heap.size+1]?=some (O30 ua un uc va vn vc true ri wa):=Ag w (O27 la xl.length lc sa xs.length sc) _;have A2:=stay hbq A1;have hv2:=hv1.below hbq;have hu2:=hu.below hbq;have hT2:=hT1.below hbq;have K2:=k1.trans (Lw.of_below hbq);go_wp2;clear h1 A1 hv1 hu hT1 k1 hbq a0 a1 x0 x1 x8 x28 x29 f29 lS z0 z1 z2 z3 z4 hv hT h hb1 lG;generalize ((w.alloc (O27 la xl.length lc sa xs.length sc)).drewN nq).alloc (O30 ua un uc va vn vc true ri wa)=w2 at *;obtain⟨a0,a1⟩:=cl2 A2;obtain⟨p0,p1,p2⟩:=cl3 P2;have x0:=Ab h2.blk 0;have x1:=Ab h2.blk 1;have lA:=lt_of_block A2;have lP:=lt_of_block P2;have lS:=lt_of_block h2.blk;simp at a0 a1 p0 p1 p2 x0 x1;have hf2:=Aa HF w2.drew (hT2.below (Below.refl _ _).drew) (hv2.below (Below.refl _ _).drew) (hu2.below (Below.refl _ _).drew);have HF2:=Ac hf2;clear hf2
       go_region_held3 (fun w'=>w'.cell? ⟨w.heap.size,0,none⟩=some (.slice la xl.length lc)∧w'.cell? ⟨w.heap.size,1,none⟩=some (.slice sa xs.length sc)∧w'.cell? ⟨w.heap.size+1,0,none⟩=some (.slice ua un uc)∧w'.cell? ⟨w.heap.size+1,1,none⟩=some (.slice va vn vc)∧w'.cell? ⟨w.heap.size+1,2,none⟩=some (.bool true)∧w'.cell? ⟨S,0,none⟩=some (.slice (some ⟨b.tg,0,none⟩) b.T.length b.tc)∧w'.cell? ⟨S,1,none⟩=some (.slice b.ya b.yn b.yc))
        (first | exact⟨a0,a1,p0,p1,p2,x0,x1⟩ | exact⟨QC hb7 lA a0,QC hb7 lA a1,QC hb7 lP p0,QC hb7 lP p1,QC hb7 lP p2,QC hb7 lS x0,QC hb7 lS x1⟩)
        (first | (go_at_call 125;refine(Aa HF2).mono ?_;rintro e w7 ⟨rfl,hb7⟩))
       have hb8:Below w2.heap.size w2 w7:=(Below.refl _ _).drew.trans hb7;have h7:=h2.below hb8;have A7:=stay hb8 A2;have P7:=stay hb8 P2;have K7:=K2.trans (Lw.of_below hb8);have hv7:=hv2.below hb8;have hu7:=hu2.below hb8;have hT7:=hT2.below hb8;clear h2 A2 P2 K2 hv2 hu2 hT2 hb7 hb8 a0 a1 p0 p1 p2 x0 x1 lA lP lS HF2;obtain⟨a0,a1⟩:=cl2 A7;obtain⟨p0,p1,p2⟩:=cl3 P7;have x0:=Ab h7.blk 0;have x1:=Ab h7.blk 1;have lA:=lt_of_block A7;have lP:=lt_of_block P7;have lS:=lt_of_block h7.blk;simp at a0 a1 p0 p1 p2 x0 x1
       go_upto_region 6 with fail
       go_cut [7,8] from 9 (fun s7 s8 wx=>∃ (jb:Nat) (z:FrV),s7=.pointer (some ⟨jb,0,none⟩)∧s8=.bool false∧wx.heap[jb]?=some (O27 z.la z.ln z.lc z.sa z.sn z.sc)∧True∧Below w7.heap.size w7 wx)
       case first =>
        have hF6:w7.drew.cell? ⟨w.heap.size,0,none⟩=some (.slice la xl.length lc)∧w7.drew.cell? ⟨w.heap.size,1,none⟩=some (.slice sa xs.length sc)∧w7.drew.cell? ⟨w.heap.size+1,0,none⟩=some (.slice ua un uc)∧w7.drew.cell? ⟨w.heap.size+1,1,none⟩=some (.slice va vn vc)∧w7.drew.cell? ⟨S,0,none⟩=some (.slice (some ⟨b.tg,0,none⟩) b.T.length b.tc)∧w7.drew.cell? ⟨S,0+1,none⟩=some (.slice b.ya b.yn b.yc):=⟨a0,a1,p0,p1,x0,x1⟩;have hBZ:Below w7.drew.heap.size w7.drew (w7.alloc (O27 none 0 0 none 0 0)).drew:=⟨rfl,rfl,rfl,(show w7.heap.size≤(w7.alloc (O27 none 0 0 none 0 0)).heap.size by simp),fun k hk=>(((Below.refl _ w7).alloc (Nat.le_refl _) (O27 none 0 0 none 0 0)).block k hk)⟩;have lZ:w7.drew.heap.size≤(w7.alloc (O27 none 0 0 none 0 0)).drew.heap.size:=hBZ.size;have Z0:(w7.alloc (O27 none 0 0 none 0 0)).drew.heap[w7.heap.size]?=some (O27 none 0 0 none 0 0):=Ad w7 _;have hd7:Below w7.heap.size w7 w7.drew:=(Below.refl _ _).drew;have hz7:Below w7.heap.size w7 (w7.alloc (O27 none 0 0 none 0 0)).drew:=hd7.trans hBZ;replace lA:w.heap.size<w7.drew.heap.size:=lA;replace lP:w.heap.size+1<w7.drew.heap.size:=lP;replace lS:S<w7.drew.heap.size:=lS;have hj1:=Aa HJ w7.drew (hT7.below hd7) (hv7.below hd7) (hu7.below hd7);have hj2:=Aa HJ (w7.alloc (O27 none 0 0 none 0 0)).drew (hT7.below hz7) (hv7.below hz7) (hu7.below hz7);rw[decide_eq_false (Aa HCAN)]at hj1 hj2;have HJ1:=Ac hj1;have HJ2:=Ac hj2;clear hj1 hj2;go_wp2
        go_region_held3 (fun w'=>w'.cell? ⟨w.heap.size,0,none⟩=some (.slice la xl.length lc)∧w'.cell? ⟨w.heap.size,1,none⟩=some (.slice sa xs.length sc)∧w'.cell? ⟨w.heap.size+1,0,none⟩=some (.slice ua un uc)∧w'.cell? ⟨w.heap.size+1,1,none⟩=some (.slice va vn vc)∧w'.cell? ⟨S,0,none⟩=some (.slice (some ⟨b.tg,0,none⟩) b.T.length b.tc)∧w'.cell? ⟨S,0+1,none⟩=some (.slice b.ya b.yn b.yc))
         (first | (with_reducible exact hF6) | (with_reducible exact Br lA lP lS hF6 hb9) | (with_reducible exact Br lA lP lS hF6 (hb9.alloc hb9.size _)) | (with_reducible exact Br lA lP lS hF6 hBZ) | (with_reducible exact Br lA lP lS hF6 (hBZ.trans (hb9.mono lZ))) | (with_reducible exact Br lA lP lS hF6 ((hBZ.trans (hb9.mono lZ)).setCell (Nat.le_refl _) _)) | (with_reducible exact Br lA lP lS hF6 (((hBZ.trans (hb9.mono lZ)).setCell (Nat.le_refl _) _).setCell (Nat.le_refl _) _)))
         (first | (go_at_call 126;refine(Aa HJ1).mono ?_;rintro e w9 ⟨z,rfl,hz,hb9⟩;obtain⟨ja,jn,jc,ka,kn,kc⟩:=z;simp only[FrV.val]) | (go_at_call 126;refine(Aa HJ2).mono ?_;rintro e w9 ⟨z,rfl,hz,hb9⟩;obtain⟨ja,jn,jc,ka,kn,kc⟩:=z;simp only[FrV.val];have Z9:=stay hb9 Z0;have z0':=Ab Z9 0;have z1':=Ab Z9 1;have q0':=Ae Z9 0;have q1':=Ae Z9 1;simp at z0' z1'))
        all_goals
         go_wp2
         go_meet
        ·exact⟨_,⟨ja,jn,jc,ka,kn,kc⟩,rfl,rfl,Ad w9 _,trivial,(hd7.trans (hb9.mono (Nat.le_refl _))).alloc (Nat.le_trans (Nat.le_refl _) hb9.size) _⟩
        ·exact⟨_,⟨ja,jn,jc,ka,kn,kc⟩,rfl,rfl,Es Z9 _ _,trivial,((QB hz7 hb9).setCell (Nat.le_refl _) _).setCell (Nat.le_refl _) _⟩
       case rest =>
        obtain⟨jb,z,rfl,rfl,ZB,hz9,hb9⟩:=hcut;obtain⟨ja,jn,jc,ka,kn,kc⟩:=z;simp only at ZB;have h9:=h7.below hb9;have A9:=stay hb9 A7;have K9:=K7.trans (Lw.of_below hb9);clear h7 A7 P7 K7 hv7 hu7 hT7 hb9 a0 a1 p0 p1 p2 x0 x1 lA lP lS;obtain⟨y0,y1⟩:=cl2 ZB;obtain⟨a0,a1⟩:=cl2 A9;obtain⟨q0,q1⟩:=fr2 A9;have lJ:=lt_of_block ZB;have lA:=lt_of_block A9;simp at a0 a1 y0 y1;have h3:=h9;have K3:=K9;clear h9 K9;have x29:=Ab h3.blk 29;have f29:=Ae h3.blk 29;have lS:=lt_of_block h3.blk;simp at x29;obtain⟨g4,k4⟩:=h3.stop;go_wp2;refine bodyPost_ret (v:=.tuple #[]) (by simp[results,Tryz.results79,go_sem]) rfl ?_;exact⟨rfl,g4,K3.trans k4⟩
theorem Me (b:PBd) (S G gc:Nat) (s:Zv) (v:FrV) (x:Zt) (q:Int) (w:World) (hl:b.T.length≤1000) (hT:TreeIn w b.tg b.T) (h:LsAt w S G b gc s) (hv:v.is x w) :
  Calls Tryz.prog 172 #[.pointer (some ⟨S,0,none⟩),v.val,.int .i64 q] w fun e w'=>e=.returned (.tuple #[])∧LsAt w' S G b gc (Abl b.T b.st x q s)∧Lw S G w w':=by
 have hA:=fun w' (hb:Below w.heap.size w w')=>Hp b S G gc s v x q w' hl (hT.below hb) (h.below hb) (hv.below hb);unfold Abl Aec;generalize Aaf b.T b.st x q s=s1 at *;obtain⟨la,ln,lc,sa,sn,sc⟩:=v;simp only[FrV.val]at hA ⊢;have HA:=Ac hA;have hb1:Below w.heap.size w (w.alloc (O27 la ln lc sa sn sc)):=QN _;have k1:Lw S G w (w.alloc (O27 la ln lc sa sn sc)):=Lw.of_below hb1;clear hA hT h hv;by_cases c0:0≤q
 ·obtain⟨k,rfl⟩:∃ k:Nat,q=(k:Int):=⟨q.toNat,by omega⟩;by_cases c1:(k:Int)<(s1.sp.length:Int)
  ·rw[if_pos ⟨c0,c1⟩];go_enter Tryz.func172,Tryz.ntmps172;go_wp2_with fail
   refine(Aa HA _ hb1).mono ?_;rintro e w1 ⟨rfl,h1,k2⟩;have x28:=Ab h1.blk 28;have lS:=lt_of_block h1.blk;obtain⟨u,hu,z0,z1,z2,z3,z4⟩:=h1.at (i:=k) (by omega);obtain⟨f4,lG⟩:=h1.free (k*5+4);obtain⟨g2,k3⟩:=h1.wa (q:=k) (by omega) true;have K:=(k1.trans k2).trans k3;have hcp:=h1.cap;have hln:=h1.len;simp at x28;clear k1 k2 k3 h1 hu hb1;go_wp2
   go_end0
   exact⟨rfl,by simpa[Zv.want] using g2,K⟩
  ·rw[if_neg (fun h=>c1 h.2)];go_enter Tryz.func172,Tryz.ntmps172;go_wp2_with fail
   refine(Aa HA _ hb1).mono ?_;rintro e w1 ⟨rfl,h1,k2⟩;have x28:=Ab h1.blk 28;have lS:=lt_of_block h1.blk;simp at x28;go_wp2
   go_end0
   exact⟨rfl,h1,k1.trans k2⟩
 ·rw[if_neg (fun h=>c0 h.1)];go_enter Tryz.func172,Tryz.ntmps172;go_wp2_with fail
  refine(Aa HA _ hb1).mono ?_;rintro e w1 ⟨rfl,h1,k2⟩;go_wp2
  go_end0
  exact⟨rfl,h1,k1.trans k2⟩
theorem Lw.stay {S G:Nat}{w w':World}{k:Nat}{o:Obj} (hb:Lw S G w w') (h:w.heap[k]?=some o) (h1:k≠S) (h2:k≠G):w'.heap[k]?=some o:=(hb.block k (lt_of_block h) h1 h2).trans h
theorem Tu (b:PBd) (S G gc:Nat) (hs:List Rd.Hnd) (bb:Nat) (p:Int) (s:Zv) (v:FrV) (x:Zt) (w:World) (hl:b.T.length≤1000) (hT:∀ w',Lw S G w w'→TreeIn w' b.tg b.T) (hhl:b.hl=hs.length) (hh4:hs.length≤1000) (hhs:∀ w',Lw S G w w'→HndsAt w' bb (.slice b.ha b.hl b.hc) hs) (h:LsAt w S G b gc s) (hv:v.is x w) :
  Calls Tryz.prog 169 #[.pointer (some ⟨S,0,none⟩),.int .i64 p,v.val] w fun e w'=>e=.returned (.tuple #[])∧LsAt w' S G b gc (Aae b.T b.st p x.locals hs s)∧Lw S G w w':=by
 have hJ:=fun u y q s' w' (k:Lw S G w w') h' hu=>Me b S G gc s' u y q w' hl (hT w' k) h' hu;have hC:=fun c w' (k:Lw S G w w')=>Rc c v x w' (hv.lw k);have HHS:=Ac hhs;generalize hr:Aae b.T b.st p x.locals hs s=R;have HR:Hid (Aae b.T b.st p x.locals (hs.drop 0) s=R):=hr;have hx10:=Ab h.blk 10;have lS:=lt_of_block h.blk;simp at hx10;have hSlt:S<w.heap.size:=lS;have hGlt:G<w.heap.size:=(h.free 0).2;obtain⟨la,ln,lc,sa,sn,sc⟩:=v;simp only[FrV.val]at hC ⊢;rw[hhl]at hx10;have HJ:=Ac hJ;have HC:=Ac hC;have hb0:Below w.heap.size w (w.alloc (O27 la ln lc sa sn sc)):=QN _;have K0:Lw S G w (w.alloc (O27 la ln lc sa sn sc)):=Lw.of_below hb0;have L0:=h.below hb0;have A0:=Ad w (O27 la ln lc sa sn sc);have X10:=(World.cell?_alloc_lt w (O27 la ln lc sa sn sc) ⟨S,10,none⟩ hSlt).trans hx10;clear hr hT hhs hv hJ hC hx10 h hl;unfold Hid at HHS;rw[hhl]at HHS;generalize b.ha=ha at X10 HHS;generalize b.hc=hc at X10 HHS;have HHS':=Ac HHS;clear HHS hhl;go_enter Tryz.func169,Tryz.ntmps169;go_wp2
 go_loopw [15] (fun i wr=>∃ (q:Nat) (t:Zv),q≤hs.length∧i=.int .i64 (q:Int)∧Hid (Aae b.T b.st p x.locals (hs.drop q) t=R)∧LsAt wr S G b gc t∧Lw S G w wr∧wr.heap[w.heap.size]?=some (O27 la ln lc sa sn sc))
  (fun i _=>hs.length-(intOf i).toNat)
 case atStart=>exact⟨0,s,by omega,rfl,HR,L0,K0,A0⟩
 case round =>
  clear HR L0 K0 A0 hb0 X10;obtain⟨q,t,hq,rfl,HR,L1,K1,CA⟩:=hrel;have hKs:=K1.size;by_cases hkn:q<hs.length
  ·obtain⟨g,hg,hglt,_,hcell⟩:=Ao (Aa HHS' _ K1) (by omega);have y0:=(hcell _ (Ax hs q hkn 0 (by omega)).2).trans (Ax hs q hkn 0 (by omega)).1;have y1:=(hcell _ (Ax hs q hkn 1 (by omega)).2).trans (Ax hs q hkn 1 (by omega)).1;have y2:=(hcell _ (Ax hs q hkn 2 (by omega)).2).trans (Ax hs q hkn 2 (by omega)).1;have y3:=(hcell _ (Ax hs q hkn 3 (by omega)).2).trans (Ax hs q hkn 3 (by omega)).1;have hd:hs.drop q=hs[q]::hs.drop (q+1):=List.drop_eq_getElem_cons hkn;have hr:=Aa HR;rw[hd,Aae]at hr;generalize hs[q]=hh at *;obtain⟨h1,h2,h3,h4⟩:=hh;simp at y0 y1 y2 y3;simp only at hr;have kb:(q:Int)<(hs.length:Int):=by omega
   have hbH:Below wr.heap.size wr (wr.alloc (O21 h1 h2 h3 h4)):=QN _;have L2:=L1.below hbH;have K2:=K1.trans (Lw.of_below hbH);have CA2:=stay hbH CA;have CH2:=Ad wr (O21 h1 h2 h3 h4);have hco:=Sb ⟨h1,h2,h3,h4⟩ p (wr.alloc (O21 h1 h2 h3 h4));simp only at hco;generalize Aao ⟨h1,h2,h3,h4⟩ p=CV at *;have HCO:=Ac hco;clear hco hd hcell HR hbH;subst hg;cases CV with
   | false =>
    rw[if_neg (by simp)]at hr;have HG:Hid (Aae b.T b.st p x.locals (hs.drop (q+1)) t=R):=hr;clear hr;go_wp2_with fail
    refine(Aa HCO).mono ?_;rintro e w1 ⟨rfl,hb1⟩;have L3:=L2.below hb1;have K3:=K2.trans (Lw.of_below hb1);have CA3:=stay hb1 CA2;clear hb1 L2 K2 CA2 L1 K1 CA CH2;go_wp2
    go_roundw
    case rel=>exact⟨q+1,t,by omega,by go_num,HG,L3,K3,CA3⟩
    case measure=>simp[intOf];omega
   | true =>
    rw[if_pos rfl]at hr;have HG:Hid (Aae b.T b.st p x.locals (hs.drop (q+1)) (Abl b.T b.st ⟨x.locals,[(3,h4)]⟩ h3 t)=R):=hr;clear hr;go_wp2_with fail
    refine(Aa HCO).mono ?_;rintro e w1 ⟨rfl,hb1⟩;have L3:=L2.below hb1;have K3:=K2.trans (Lw.of_below hb1);have CA3:=stay hb1 CA2;have CH3:=stay hb1 CH2;clear hb1 L2 K2 CA2 L1 K1 CA CH2;obtain⟨x0,x1⟩:=cl2 CA3;have z3:=Ab CH3 3;simp at x0 x1 z3;go_wp2_with fail
    refine(Aa HC h4 _ K3).mono ?_;rintro e w2 ⟨u,rfl,hu,hb2⟩;obtain⟨ua,un,uc,va,vn,vc⟩:=u;have hbC:Below w1.heap.size w1 (w2.alloc (O27 ua un uc va vn vc)):=hb2.alloc hb2.size _;have hu4:=hu.below (show Below w2.heap.size w2 (w2.alloc (O27 ua un uc va vn vc)) from QN _);have L4:=L3.below hbC;have K4:=K3.trans (Lw.of_below hbC);have CA4:=stay hbC CA3;have CH4:=stay hbC CH3;have hj:=Aa HJ ⟨ua,un,uc,va,vn,vc⟩ _ h3 t _ K4 L4 hu4;simp only[FrV.val]at hj;have HJ4:=Ac hj;have z2:=Ab CH4 2;have lH:=lt_of_block CH4;simp at z2;clear hb2 L3 K3 CA3 CH3 x0 x1 z3 hbC hu hu4 hj;go_wp2_with fail
    refine(Aa HJ4).mono ?_;rintro e w3 ⟨rfl,L5,K5⟩;have CA5:=K5.stay CA4 (by omega) (by omega);have K6:=K4.trans K5;clear L4 K4 K5 CA4 CH4;go_wp2
    go_roundw
    case rel=>exact⟨q+1,_,by omega,by go_num,HG,L5,K6,CA5⟩
    case measure=>simp[intOf];omega
  ·have kb:¬ (q:Int)<(hs.length:Int):=by omega
   have e:t=R:=by rw[← Aa HR,List.drop_eq_nil_of_le (by omega)];rfl
   subst e;clear HR;go_wp2
   go_end0
   exact⟨rfl,L1,K1⟩
end Go.Proofs.YtcefiamkoincoaaGreat
