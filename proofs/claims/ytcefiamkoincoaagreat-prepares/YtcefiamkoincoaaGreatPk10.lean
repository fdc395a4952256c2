/- a part of the proof -/
import Derived.Deep.RegionHeld3
import Derived.Test.YtcefiamkoincoaaGreatPk09
set_option maxRecDepth 100000
set_option maxHeartbeats 40000000
set_option linter.unusedVariables false
set_option linter.unusedSimpArgs false
namespace Go.Proofs.YtcefiamkoincoaaGreat
open Go.RowKit
theorem Zq (l:List (Rd.Mth × MthV)) (k:Nat) (hk:k<l.length):(Cb l)[k*10]?=some (.int .i64 l[k].1.cl)∧k*10<(Cb l).length:=by
 have h:=Dq (fun x:Rd.Mth × MthV=>Cj x.1 x.2) 10 (fun _=>rfl) l k hk 0 (by omega);have h2:=Cx (fun x:Rd.Mth × MthV=>Cj x.1 x.2) 10 (fun _=>rfl) l;refine⟨?_,?_⟩
 ·unfold Cb;rw[show k*10=k*10+0 by omega,h];rfl
 ·unfold Cb;rw[h2];omega
def Cd.hasM (ow:List Int) (n:Int) (ofc:Bool):Bool:=if n<0 then false else if (ow.length:Int)≤n then false else ((ow.getD n.toNat 0 != 255)==ofc)
theorem Wg (b:PBd) (bm:Nat) (lm:List (Rd.Mth × MthV)) (n:Int) (ofc:Bool) (w:World) (hfl:b.fl2=lm.length) (hm6:lm.length≤1000) (hm:MthsIn w bm (.slice b.fa2 b.fl2 b.fc2) lm) :
  Calls Tryz.prog 193 #[b.val,.int .i64 n,.bool ofc] w fun e w'=>e=.returned (.bool (Cd.hasM (lm.map fun p=>p.1.cl) n ofc))∧Below w.heap.size w w':=by
 unfold Cd.hasM;rw[List.length_map];obtain⟨fa1,fl1,fc1,fa2,fl2,fc2,tg,tc,ya,yn,yc,cl,nm,pa,pl,pc,r1,r2,lo,st,ca,cn,cc,ha,hl',hc,ma,ml,mc,la,lc,T,L⟩:=b;simp only at hfl hm;subst hfl;simp only[PBd.val];by_cases h1:n<0
 ·rw[if_pos h1];go_enter Tryz.func193,Tryz.ntmps193;go_wp2;go_ret;exact⟨rfl,QN _⟩
 ·rw[if_neg h1];by_cases h2:(lm.length:Int)≤n
  ·rw[if_pos h2];go_enter Tryz.func193,Tryz.ntmps193;go_wp2;go_ret;exact⟨rfl,QN _⟩
  ·rw[if_neg h2];obtain⟨q,rfl⟩:=Int.eq_ofNat_of_zero_le (show 0≤n by omega);have hq:q<lm.length:=by omega
   obtain⟨g,hg,hglt,_,hcell⟩:=Ao hm.1 (by omega);obtain⟨e1,e2⟩:=Zq lm q hq;have y0:=(hcell _ e2).trans e1;have ho:(lm.map fun p=>p.1.cl).getD q 0=lm[q].1.cl:=by simp[List.getD_eq_getElem?_getD,hq]
   rw[Int.toNat_natCast,ho];generalize lm[q].1.cl=oc at *;have kb:(q:Int)<(lm.length:Int):=by omega
   clear ho e1 e2 hcell hm;subst hg;go_enter Tryz.func193,Tryz.ntmps193;go_wp2;go_ret;exact⟨rfl,QN _⟩
def Cd.fieldSum:List Rd.Cls→Nat
 | []=>0
 | c::r=>c.fields.length+Cd.fieldSum r
theorem Li (a1 a2:Option Addr) (c1 n2 c2 bb:Nat) (l:List (Rd.Cls × Value)) (w:World) (hl:l.length≤6) (hfl:∀ p∈l,p.1.fields.length≤1000) (hc:ClssIn w bb (.slice a1 l.length c1) l) :
  Calls Tryz.prog 192 #[.agg #[.slice a1 l.length c1,.slice a2 n2 c2]] w fun e w'=>e=.returned (.int .i64 (Cd.fieldSum (l.map Prod.fst):Int))∧Below w.heap.size w w':=by
 generalize hR:(Cd.fieldSum (l.map Prod.fst):Int)=R;have HR:Hid (((0+Cd.fieldSum ((l.map Prod.fst).drop 0):Nat):Int)=R):=by unfold Hid;rw[← hR];simp
 clear hR;have hB0:Below w.heap.size w (w.alloc (O1 a1 l.length c1 a2 n2 c2)):=QN _;go_enter Tryz.func192,Tryz.ntmps192;go_wp2
 go_loopw [3,9] (fun u v wr=>∃ k t:Nat,k≤l.length∧v=.int .i64 (k:Int)∧u=.int .i64 (t:Int)∧t≤1000*k∧Hid (((t+Cd.fieldSum ((l.map Prod.fst).drop k):Nat):Int)=R)∧Below w.heap.size w wr)
  (fun _ v _=>l.length-(intOf v).toNat)
 case atStart=>exact⟨0,0,by omega,rfl,rfl,by omega,HR,hB0⟩
 case round =>
  clear HR hB0;obtain⟨k,t,hk,rfl,rfl,htk,HR,hB⟩:=hrel;have hBs:=hB.size;by_cases hkn:k<l.length
  ·have hcr:=hc.kp (Kp.of_below (e:=none) hB) (by decide) (by decide);obtain⟨g,hg,hglt,_,hcell⟩:=Ao hcr.1 (by omega);obtain⟨e1,e2,e3⟩:=Cv l k hkn;have x0:=(hcell _ (by omega)).trans e1;have x1:=(hcell _ e3).trans e2;obtain⟨ua,uc,hu⟩:=Af (hcr.2 _ (List.getElem_mem hkn));rw[hu]at x1;have hfk:=hfl _ (List.getElem_mem hkn);have hd:(l.map Prod.fst).drop k=l[k].1::(l.map Prod.fst).drop (k+1):=by
    rw[List.drop_eq_getElem_cons (by simpa using hkn)]
    simp
   have hr:=Aa HR;rw[hd,Cd.fieldSum]at hr;generalize l[k].1.fields.length=fl at *;generalize l[k].1.above=ab at *;have HRR:Hid (((t+fl+Cd.fieldSum ((l.map Prod.fst).drop (k+1)):Nat):Int)=R):=by unfold Hid;rw[← hr];omega
   have kb:(k:Int)<(l.length:Int):=by omega
   have hB1:=hB.alloc hBs (O5 ab ua fl uc);clear hr hd hcell e1 e2 e3 hcr hu HR;subst hg;go_wp2
   go_roundw
   case rel=>exact⟨k+1,t+fl,by omega,by go_num,by go_num,by omega,HRR,hB1⟩
   case measure=>simp[intOf];omega
  ·have HF:Hid ((t:Int)=R):=by unfold Hid;rw[← Aa HR,List.drop_eq_nil_of_le (by simp;omega)];simp[Cd.fieldSum]
   have kb:¬ (k:Int)<(l.length:Int):=by omega
   clear HR;go_wp2;go_ret;exact⟨by rw[← Aa HF];rfl,hB⟩
def Cd.argP (T:List Int) (nf:Int) (ow:List Int) (lo:Int) (L:List Cd.Ins) (op n:Int):Bool :=
 if op=2∨op=3 then decide (n<lo)
 else if 11≤op∧op≤14 then (Cd.findAt n L).isSome
 else if op=15∨op=16∨op=19 then Tr.hasB T n
 else if op=17∨op=18 then decide (n<nf)
 else if op=20 then Cd.hasM ow n false
 else if op=21 then Cd.hasM ow n true
 else true
theorem Ux (b:PBd) (bb bm:Nat) (lcs:List (Rd.Cls × Value)) (lm:List (Rd.Mth × MthV)) (p op n:Int) (w:World) (hb:b.ok w bb) (hfl1:b.fl1=lcs.length) (hfl2:b.fl2=lm.length) (hm6:lm.length≤1000) (hc6:lcs.length≤6) (hcf:∀ p∈lcs,p.1.fields.length≤1000)
  (hcs:ClssIn w bm (.slice b.fa1 b.fl1 b.fc1) lcs) (hms:MthsIn w bm (.slice b.fa2 b.fl2 b.fc2) lm) :
  Calls Tryz.prog 163 #[b.val,.agg #[.int .i64 p,.int .i64 op,.int .i64 n]] w fun e w' =>
   e=.returned (.bool (Cd.argP b.T (Cd.fieldSum (lcs.map Prod.fst):Int) (lm.map fun p=>p.1.cl) b.lo b.L op n))∧Below w.heap.size w w':=by
 have hBe:=fun w (h:b.ok w bb)=>Gv b.L b.la b.lc bb n w h.2.1 h.2.2.2;have hHa:=fun w=>Ld (ya:=b.ya) (yn:=b.yn) (yc:=b.yc) b.T (some ⟨b.tg,0,none⟩) b.tc n w;have hHM:=fun o w' (h:Below w.heap.size w w')=>Wg b bm lm n o w' hfl2 hm6 (hms.kp (Kp.of_below (e:=none) h) (by decide) (by decide) (by decide) (by decide) (by decide));have hFC:∀ w',Below w.heap.size w w'→Calls Tryz.prog 192 #[.agg #[.slice b.fa1 b.fl1 b.fc1,.slice b.fa2 b.fl2 b.fc2]] w' fun e w2=>e=.returned (.int .i64 (Cd.fieldSum (lcs.map Prod.fst):Int))∧Below w'.heap.size w' w2:=by
  intro w' h;rw[hfl1]at hcs ⊢;exact Li b.fa1 b.fa2 b.fc1 b.fl2 b.fc2 bm lcs w' hc6 hcf (hcs.kp (Kp.of_below (e:=none) h) (by decide) (by decide))
 have HOK:∀ w',Below w.heap.size w w'→b.ok w' bb:=fun w' h=>hb.below h;generalize hres:Cd.argP b.T (Cd.fieldSum (lcs.map Prod.fst):Int) (lm.map fun p=>p.1.cl) b.lo b.L op n=R;unfold Cd.argP at hres;generalize (Cd.fieldSum (lcs.map Prod.fst):Int)=nf at *;generalize Cd.hasM (lm.map fun p=>p.1.cl) n=HMf at *;generalize (Cd.findAt n b.L).isSome=B at *;generalize Tr.hasB b.T n=K at *;obtain⟨fa1,fl1,fc1,fa2,fl2,fc2,tg,tc,ya,yn,yc,cl,nm,pa,pl,pc,r1,r2,lo,st,ca,cn,cc,ha,hl',hc,ma,ml,mc,la,lc,T,L⟩:=b;simp only at hfl1 hfl2;subst hfl1 hfl2;simp only[PBd.val]at hBe hHa hHM hFC hres ⊢;have HBe:=Ac hBe;have HHa:=Ac hHa;have HHM:=Ac hHM;have HFC:=Ac hFC;have HO:=Ac HOK;clear hBe hHa hHM hFC HOK hb hcs hms hcf;by_cases hop:op=2
 ·subst hop;have HR:Hid (R=decide (n<lo)):=by unfold Hid;rw[← hres];simp
  clear hres;go_enter Tryz.func163,Tryz.ntmps163;go_wp2;go_ret;exact⟨by rw[Aa HR];rfl,Ak _ _ _⟩
 have n2:(op==2)=false:=by simp[hop]
 have i2:=hop;clear hop;by_cases hop:op=3
 ·subst hop;have HR:Hid (R=decide (n<lo)):=by unfold Hid;rw[← hres];simp
  clear hres;go_enter Tryz.func163,Tryz.ntmps163;go_wp2;go_ret;exact⟨by rw[Aa HR];rfl,Ak _ _ _⟩
 have n3:(op==3)=false:=by simp[hop]
 have i3:=hop;clear hop;by_cases hop:op=11
 ·subst hop;have HR:Hid (R=B):=by unfold Hid;rw[← hres];simp
  clear hres;go_enter Tryz.func163,Tryz.ntmps163;go_wp2_with fail
  refine(Aa HBe _ (Aa HO _ (Ak _ _ _))).mono ?_;rintro e w2 ⟨rfl,hb2⟩;go_wp2;go_ret;exact⟨by rw[Aa HR];rfl,(Ak _ _ _).trans (hb2.mono (by simp;omega))⟩
 have n11:(op==11)=false:=by simp[hop]
 have i11:=hop;clear hop;by_cases hop:op=12
 ·subst hop;have HR:Hid (R=B):=by unfold Hid;rw[← hres];simp
  clear hres;go_enter Tryz.func163,Tryz.ntmps163;go_wp2_with fail
  refine(Aa HBe _ (Aa HO _ (Ak _ _ _))).mono ?_;rintro e w2 ⟨rfl,hb2⟩;go_wp2;go_ret;exact⟨by rw[Aa HR];rfl,(Ak _ _ _).trans (hb2.mono (by simp;omega))⟩
 have n12:(op==12)=false:=by simp[hop]
 have i12:=hop;clear hop;by_cases hop:op=13
 ·subst hop;have HR:Hid (R=B):=by unfold Hid;rw[← hres];simp
  clear hres;go_enter Tryz.func163,Tryz.ntmps163;go_wp2_with fail
  refine(Aa HBe _ (Aa HO _ (Ak _ _ _))).mono ?_;rintro e w2 ⟨rfl,hb2⟩;go_wp2;go_ret;exact⟨by rw[Aa HR];rfl,(Ak _ _ _).trans (hb2.mono (by simp;omega))⟩
 have n13:(op==13)=false:=by simp[hop]
 have i13:=hop;clear hop;by_cases hop:op=14
 ·subst hop;have HR:Hid (R=B):=by unfold Hid;rw[← hres];simp
  clear hres;go_enter Tryz.func163,Tryz.ntmps163;go_wp2_with fail
  refine(Aa HBe _ (Aa HO _ (Ak _ _ _))).mono ?_;rintro e w2 ⟨rfl,hb2⟩;go_wp2;go_ret;exact⟨by rw[Aa HR];rfl,(Ak _ _ _).trans (hb2.mono (by simp;omega))⟩
 have n14:(op==14)=false:=by simp[hop]
 have i14:=hop;clear hop;by_cases hop:op=15
 ·subst hop;have HR:Hid (R=K):=by unfold Hid;rw[← hres];simp
  clear hres;go_enter Tryz.func163,Tryz.ntmps163;go_wp2_with fail
  refine(Aa HHa _).mono ?_;rintro e w2 ⟨rfl,hb2⟩;go_wp2;go_ret;exact⟨by rw[Aa HR];rfl,(Ak _ _ _).trans (hb2.mono (by simp;omega))⟩
 have n15:(op==15)=false:=by simp[hop]
 have i15:=hop;clear hop;by_cases hop:op=16
 ·subst hop;have HR:Hid (R=K):=by unfold Hid;rw[← hres];simp
  clear hres;go_enter Tryz.func163,Tryz.ntmps163;go_wp2_with fail
  refine(Aa HHa _).mono ?_;rintro e w2 ⟨rfl,hb2⟩;go_wp2;go_ret;exact⟨by rw[Aa HR];rfl,(Ak _ _ _).trans (hb2.mono (by simp;omega))⟩
 have n16:(op==16)=false:=by simp[hop]
 have i16:=hop;clear hop;by_cases hop:op=19
 ·subst hop;have HR:Hid (R=K):=by unfold Hid;rw[← hres];simp
  clear hres;go_enter Tryz.func163,Tryz.ntmps163;go_wp2_with fail
  refine(Aa HHa _).mono ?_;rintro e w2 ⟨rfl,hb2⟩;go_wp2;go_ret;exact⟨by rw[Aa HR];rfl,(Ak _ _ _).trans (hb2.mono (by simp;omega))⟩
 have n19:(op==19)=false:=by simp[hop]
 have i19:=hop;clear hop;by_cases hop:op=17
 ·subst hop;have CB:=Ah w (O18 fa1 lcs.length fc1 fa2 lm.length fc2 (some ⟨tg,0,none⟩) T.length tc ya yn yc cl nm pa pl pc r1 r2 lo st ca cn cc ha hl' hc ma ml mc la L.length lc) (O17 p 17 n);have CI:=Ag w (O18 fa1 lcs.length fc1 fa2 lm.length fc2 (some ⟨tg,0,none⟩) T.length tc ya yn yc cl nm pa pl pc r1 r2 lo st ca cn cc ha hl' hc ma ml mc la L.length lc) (O17 p 17 n);have f0:((w.alloc (O18 fa1 lcs.length fc1 fa2 lm.length fc2 (some ⟨tg,0,none⟩) T.length tc ya yn yc cl nm pa pl pc r1 r2 lo st ca cn cc ha hl' hc ma ml mc la L.length lc)).alloc (O17 p 17 n)).cell? ⟨w.heap.size,0,none⟩=some (.slice fa1 lcs.length fc1):=Ab CB 0;have f1:((w.alloc (O18 fa1 lcs.length fc1 fa2 lm.length fc2 (some ⟨tg,0,none⟩) T.length tc ya yn yc cl nm pa pl pc r1 r2 lo st ca cn cc ha hl' hc ma ml mc la L.length lc)).alloc (O17 p 17 n)).cell? ⟨w.heap.size,1,none⟩=some (.slice fa2 lm.length fc2):=Ab CB 1;have g2:((w.alloc (O18 fa1 lcs.length fc1 fa2 lm.length fc2 (some ⟨tg,0,none⟩) T.length tc ya yn yc cl nm pa pl pc r1 r2 lo st ca cn cc ha hl' hc ma ml mc la L.length lc)).alloc (O17 p 17 n)).cell? ⟨w.heap.size+1,2,none⟩=some (.int .i64 n):=Ab CI 2;have lF:=lt_of_block CB;have lI:=lt_of_block CI;have HR:Hid (R=decide (n<nf)):=by unfold Hid;rw[← hres];simp
  clear hres;go_enter Tryz.func163,Tryz.ntmps163;go_wp2
  go_region_held3 (fun w'=>w'.cell? ⟨w.heap.size,0,none⟩=some (.slice fa1 lcs.length fc1)∧w'.cell? ⟨w.heap.size,1,none⟩=some (.slice fa2 lm.length fc2)∧w'.cell? ⟨w.heap.size+1,2,none⟩=some (.int .i64 n))
   (first | exact⟨f0,f1,g2⟩ | exact⟨QC hb2 lF f0,QC hb2 lF f1,QC hb2 lI g2⟩)
   (first | (go_at_call 192;refine(Aa HFC _ (Ak _ _ _).drew).mono ?_;rintro e w2 ⟨rfl,hb2⟩))
  all_goals
   go_wp2;go_ret;exact⟨by rw[Aa HR];rfl,(Ak _ _ _).drew.trans (hb2.mono (by simp;omega))⟩
 have n17:(op==17)=false:=by simp[hop]
 have i17:=hop;clear hop;by_cases hop:op=18
 ·subst hop;have CB:=Ah w (O18 fa1 lcs.length fc1 fa2 lm.length fc2 (some ⟨tg,0,none⟩) T.length tc ya yn yc cl nm pa pl pc r1 r2 lo st ca cn cc ha hl' hc ma ml mc la L.length lc) (O17 p 18 n);have CI:=Ag w (O18 fa1 lcs.length fc1 fa2 lm.length fc2 (some ⟨tg,0,none⟩) T.length tc ya yn yc cl nm pa pl pc r1 r2 lo st ca cn cc ha hl' hc ma ml mc la L.length lc) (O17 p 18 n);have f0:((w.alloc (O18 fa1 lcs.length fc1 fa2 lm.length fc2 (some ⟨tg,0,none⟩) T.length tc ya yn yc cl nm pa pl pc r1 r2 lo st ca cn cc ha hl' hc ma ml mc la L.length lc)).alloc (O17 p 18 n)).cell? ⟨w.heap.size,0,none⟩=some (.slice fa1 lcs.length fc1):=Ab CB 0;have f1:((w.alloc (O18 fa1 lcs.length fc1 fa2 lm.length fc2 (some ⟨tg,0,none⟩) T.length tc ya yn yc cl nm pa pl pc r1 r2 lo st ca cn cc ha hl' hc ma ml mc la L.length lc)).alloc (O17 p 18 n)).cell? ⟨w.heap.size,1,none⟩=some (.slice fa2 lm.length fc2):=Ab CB 1;have g2:((w.alloc (O18 fa1 lcs.length fc1 fa2 lm.length fc2 (some ⟨tg,0,none⟩) T.length tc ya yn yc cl nm pa pl pc r1 r2 lo st ca cn cc ha hl' hc ma ml mc la L.length lc)).alloc (O17 p 18 n)).cell? ⟨w.heap.size+1,2,none⟩=some (.int .i64 n):=Ab CI 2;have lF:=lt_of_block CB;have lI:=lt_of_block CI;have HR:Hid (R=decide (n<nf)):=by unfold Hid;rw[← hres];simp
  clear hres;go_enter Tryz.func163,Tryz.ntmps163;go_wp2
  go_region_held3 (fun w'=>w'.cell? ⟨w.heap.size,0,none⟩=some (.slice fa1 lcs.length fc1)∧w'.cell? ⟨w.heap.size,1,none⟩=some (.slice fa2 lm.length fc2)∧w'.cell? ⟨w.heap.size+1,2,none⟩=some (.int .i64 n))
   (first | exact⟨f0,f1,g2⟩ | exact⟨QC hb2 lF f0,QC hb2 lF f1,QC hb2 lI g2⟩)
   (first | (go_at_call 192;refine(Aa HFC _ (Ak _ _ _).drew).mono ?_;rintro e w2 ⟨rfl,hb2⟩))
  all_goals
   go_wp2;go_ret;exact⟨by rw[Aa HR];rfl,(Ak _ _ _).drew.trans (hb2.mono (by simp;omega))⟩
 have n18:(op==18)=false:=by simp[hop]
 have i18:=hop;clear hop;by_cases hop:op=20
 ·subst hop;have HR:Hid (R=HMf false):=by unfold Hid;rw[← hres];simp
  clear hres;go_enter Tryz.func163,Tryz.ntmps163;go_wp2_with fail
  refine(Aa HHM false _ (Ak _ _ _)).mono ?_;rintro e w2 ⟨rfl,hb2⟩;go_wp2;go_ret;exact⟨by rw[Aa HR];rfl,(Ak _ _ _).trans (hb2.mono (by simp;omega))⟩
 have n20:(op==20)=false:=by simp[hop]
 have i20:=hop;clear hop;by_cases hop:op=21
 ·subst hop;have HR:Hid (R=HMf true):=by unfold Hid;rw[← hres];simp
  clear hres;go_enter Tryz.func163,Tryz.ntmps163;go_wp2_with fail
  refine(Aa HHM true _ (Ak _ _ _)).mono ?_;rintro e w2 ⟨rfl,hb2⟩;go_wp2;go_ret;exact⟨by rw[Aa HR];rfl,(Ak _ _ _).trans (hb2.mono (by simp;omega))⟩
 have n21:(op==21)=false:=by simp[hop]
 have i21:=hop;clear hop;have HR:Hid (R=true):=by
  unfold Hid;rw[← hres,if_neg (by omega),if_neg (by omega),if_neg (by omega),if_neg (by omega),if_neg (by omega),if_neg (by omega)]
 clear hres i2 i3 i11 i12 i13 i14 i15 i16 i19 i17 i18 i20 i21;go_enter Tryz.func163,Tryz.ntmps163;go_wp2;go_ret;exact⟨by rw[Aa HR];rfl,Ak _ _ _⟩
def Cd.inMaps (T:List Int) (L:List Cd.Ins):Nat→Int→List Rd.Mp→Int
 | _,_,[]=>-1
 | i,low,x::r=>if x.place<low then (i:Int) else if Cd.mapMay T L x=false then (i:Int) else Cd.inMaps T L (i+1) (x.place+1) r
def Cd.faultOf (r:Int):Int × Int:=if r<0 then (0,0) else (7,r)
theorem Rq (b:PBd) (bb b2:Nat) (lm:List (Rd.Mp × Value × Value)) (w:World) (hb:b.ok w bb) (hml:b.ml=lm.length) (hm4:lm.length≤1000) (hml2:∀ p∈lm,p.1.locals.length≤1000∧p.1.stack.length≤1000∧-1000≤p.1.place∧p.1.place≤1000) (hmp:MpsIn w b2 (.slice b.ma b.ml b.mc) lm) :
  Calls Tryz.prog 165 #[b.val] w fun e w' =>
   e=.returned (.agg #[.int .i64 (Cd.faultOf (Cd.inMaps b.T b.L 0 0 (lm.map Prod.fst))).1,.int .i64 0,.int .i64 (Cd.faultOf (Cd.inMaps b.T b.L 0 0 (lm.map Prod.fst))).2])∧Below w.heap.size w w':=by
 have hMM:=fun x v1a v2a v1c v2c w' (h:Below w.heap.size w w') h1 h2 h3 h4=>Rt b bb b2 x v1a v2a v1c v2c w' (hb.below h) h1 h2 h3 h4;have HMP:∀ w',Below w.heap.size w w'→MpsIn w' b2 (.slice b.ma b.ml b.mc) lm:=fun w' h=>hmp.kp (Kp.of_below (e:=none) h) (by decide) (by decide);generalize hr:Cd.inMaps b.T b.L 0 0 (lm.map Prod.fst)=r;have HR:Hid (Cd.inMaps b.T b.L 0 0 ((lm.map Prod.fst).drop 0)=r):=hr;generalize hF:Cd.faultOf r=Fa;have HF:=Ac hF;clear hr hF hb hmp;obtain⟨fa1,fl1,fc1,fa2,fl2,fc2,tg,tc,ya,yn,yc,cl,nm,pa,pl,pc,r1,r2,lo,st,ca,cn,cc,ha,hl',hc,ma,ml,mc,la,lc,T,L⟩:=b;simp only at hml;subst hml;simp only[PBd.val]at hMM HMP HR ⊢;have HMM:=Ac hMM;have HMP':=Ac HMP;have HL2:=Ac hml2;clear hMM HMP hml2;have hB0:=Ak w (O18 fa1 fl1 fc1 fa2 fl2 fc2 (some ⟨tg,0,none⟩) T.length tc ya yn yc cl nm pa pl pc r1 r2 lo st ca cn cc ha hl' hc ma lm.length mc la L.length lc) (O8 0 0 0);have CB0:=Ah w (O18 fa1 fl1 fc1 fa2 fl2 fc2 (some ⟨tg,0,none⟩) T.length tc ya yn yc cl nm pa pl pc r1 r2 lo st ca cn cc ha hl' hc ma lm.length mc la L.length lc) (O8 0 0 0);have CR0:=Ag w (O18 fa1 fl1 fc1 fa2 fl2 fc2 (some ⟨tg,0,none⟩) T.length tc ya yn yc cl nm pa pl pc r1 r2 lo st ca cn cc ha hl' hc ma lm.length mc la L.length lc) (O8 0 0 0);go_enter Tryz.func165,Tryz.ntmps165;go_wp2
 go_loopw [3,10] (fun u v wr=>∃ (k:Nat) (low:Int),k≤lm.length∧v=.int .i64 (k:Int)∧u=.int .i64 low∧Hid (Cd.inMaps T L k low ((lm.map Prod.fst).drop k)=r)∧Below w.heap.size w wr ∧
   wr.heap[w.heap.size]?=some (O18 fa1 fl1 fc1 fa2 fl2 fc2 (some ⟨tg,0,none⟩) T.length tc ya yn yc cl nm pa pl pc r1 r2 lo st ca cn cc ha hl' hc ma lm.length mc la L.length lc)∧wr.heap[w.heap.size+1]?=some (O8 0 0 0))
  (fun _ v _=>lm.length-(intOf v).toNat)
 case atStart=>exact⟨0,0,by omega,rfl,rfl,HR,hB0,CB0,CR0⟩
 case round =>
  clear HR hB0 CB0 CR0;obtain⟨k,low,hk,rfl,rfl,HR,hB,CB,CR⟩:=hrel;obtain⟨m0,m1,m2,m3,m4,m5,m6,m7,m8,m9,m10,m11,m12,m13,m14⟩:=Gm CB;simp at m0 m1 m2 m3 m4 m5 m6 m7 m8 m9 m10 m11 m12 m13 m14;have hBs:=hB.size;have lB:=lt_of_block CB;have lR:=lt_of_block CR;by_cases hkn:k<lm.length
  ·have hmr:=Aa HMP' _ hB;obtain⟨g,hg,hglt,_,hcell⟩:=Ao hmr.1 (by omega);have y0:=(hcell _ (Bi lm k hkn 0 (by omega)).2).trans (Bi lm k hkn 0 (by omega)).1;have y1:=(hcell _ (Bi lm k hkn 1 (by omega)).2).trans (Bi lm k hkn 1 (by omega)).1;have y2:=(hcell _ (Bi lm k hkn 2 (by omega)).2).trans (Bi lm k hkn 2 (by omega)).1;obtain⟨ht1,ht2⟩:=hmr.2 _ (List.getElem_mem hkn);obtain⟨hl1,hl2,hp1,hp2⟩:=Aa HL2 _ (List.getElem_mem hkn);have hd:(lm.map Prod.fst).drop k=lm[k].1::(lm.map Prod.fst).drop (k+1):=by
    rw[List.drop_eq_getElem_cons (by simpa using hkn)]
    simp
   have hr:=Aa HR;rw[hd,Cd.inMaps]at hr;generalize lm[k]=x at *;obtain⟨⟨plc,loc,stk⟩,v1,v2⟩:=x;simp only at y0 y1 y2 ht1 ht2 hl1 hl2 hr hp1 hp2;obtain⟨v1a,v1c,rfl⟩:=Af ht1;obtain⟨v2a,v2c,rfl⟩:=Af ht2;simp at y0 y1 y2;have hB1:=hB.alloc hBs (O19 plc v1a loc.length v1c v2a stk.length v2c);have hBx:Below wr.heap.size wr (wr.alloc (O19 plc v1a loc.length v1c v2a stk.length v2c)):=QN _;have hmm:=Aa HMM ⟨plc,loc,stk⟩ v1a v2a v1c v2c _ hB1 hl1 hl2 (ht1.kp (Kp.of_below (e:=none) hBx) (by decide)) (ht2.kp (Kp.of_below (e:=none) hBx) (by decide));simp only at hmm;generalize Cd.mapMay T L ⟨plc,loc,stk⟩=M at *;have CX1:=Ad wr (O19 plc v1a loc.length v1c v2a stk.length v2c);have CB1:=Aj CB (O19 plc v1a loc.length v1c v2a stk.length v2c);have CR1:=Aj CR (O19 plc v1a loc.length v1c v2a stk.length v2c);have HM:=Ac hmm;have HRR:=Ac hr;have kb:(k:Int)<(lm.length:Int):=by omega
   clear hmm hr hd hcell HR ht1 ht2 hmr hBx;subst hg;by_cases hlw:plc<low
   ·have HE:Hid (Fa=(7,(k:Int))):=by
     unfold Hid;rw[← Aa HF,← Aa HRR,if_pos hlw,Cd.faultOf,if_neg (by omega)]
    obtain⟨q0,q1,q2⟩:=fr3 CR;obtain⟨z0,z1,z2⟩:=cl3 CR;simp at z0 z1 z2;clear HRR HM;go_wp2_with fail
    refine bodyPost_ret (v:=.agg #[.int .i64 7,.int .i64 0,.int .i64 (k:Int)]) (by simp[results,Tryz.results165,go_sem,z0,z1,z2,lR]) rfl ?_;rw[Aa HE];exact⟨rfl,by repeat (first | refine Below.setCell ?_ (by simp) _ | refine Below.alloc ?_ (by first | omega | (simp;omega)) _ | exact hB)⟩
   ·cases M with
    | false =>
     have HE:Hid (Fa=(7,(k:Int))):=by
      unfold Hid;rw[← Aa HF,← Aa HRR,if_neg hlw,if_pos rfl,Cd.faultOf,if_neg (by omega)]
     clear HRR;go_wp2_with fail
     refine(Aa HM).mono ?_;rintro e w2 ⟨rfl,hb2⟩;have hB2:=QB hB1 hb2;have CR2:=stay hb2 CR1;obtain⟨q0,q1,q2⟩:=fr3 CR2;obtain⟨z0,z1,z2⟩:=cl3 CR2;simp at z0 z1 z2;go_wp2_with fail
     refine bodyPost_ret (v:=.agg #[.int .i64 7,.int .i64 0,.int .i64 (k:Int)]) (by simp[results,Tryz.results165,go_sem,z0,z1,z2]) rfl ?_;rw[Aa HE];exact⟨rfl,((hB2.setCell (by simp) _).setCell (by simp) _).setCell (by simp) _⟩
    | true =>
     have HG:Hid (Cd.inMaps T L (k+1) (plc+1) ((lm.map Prod.fst).drop (k+1))=r):=by unfold Hid;rw[← Aa HRR,if_neg hlw];simp
     clear HRR;go_wp2_with fail
     refine(Aa HM).mono ?_;rintro e w2 ⟨rfl,hb2⟩;have hB2:=QB hB1 hb2;have CB2:=stay hb2 CB1;have CR2:=stay hb2 CR1;have CX2:=stay hb2 CX1;have z0:=Ab CX2 0;simp at z0;clear hb2 hB1 CB1 CR1 CX1 hB CB CR m0 m1 m2 m3 m4 m5 m6 m7 m8 m9 m10 m11 m12 m13 m14 y0 y1 y2;go_wp2
     go_roundw
     case rel=>exact⟨k+1,plc+1,by omega,by go_num,by go_num,HG,hB2,CB2,CR2⟩
     case measure=>simp[intOf];omega
  ·have HE:Hid (Fa=(0,0)):=by
    unfold Hid;rw[← Aa HF,← Aa HR,List.drop_eq_nil_of_le (by simp;omega)];rfl
   have kb:¬ (k:Int)<(lm.length:Int):=by omega
   obtain⟨q0,q1,q2⟩:=fr3 CR;obtain⟨z0,z1,z2⟩:=cl3 CR;simp at z0 z1 z2;clear HR;go_wp2_with fail
   refine bodyPost_ret (v:=.agg #[.int .i64 0,.int .i64 0,.int .i64 0]) (by simp[results,Tryz.results165,go_sem,z0,z1,z2]) rfl ?_;rw[Aa HE];exact⟨rfl,((hB.setCell (by simp) _).setCell (by simp) _).setCell (by simp) _⟩
end Go.Proofs.YtcefiamkoincoaaGreat
namespace Go.Proofs.YtcefiamkoincoaaGreat.Cd
theorem Qg (ow:List Int) (n:Int) (h:0≤n):hasM ow n false=(decide (n<(ow.length:Int))&&(ow.getD n.toNat 0==255))∧hasM ow n true=(decide (n<(ow.length:Int))&&(ow.getD n.toNat 0 != 255)):=by
 unfold hasM;have hn:¬ n<0:=by omega
 simp only[if_neg hn];by_cases h2:(ow.length:Int)≤n
 ·have:decide (n<(ow.length:Int))=false:=by simp;omega
  simp only[if_pos h2,this]
  simp
 ·have:decide (n<(ow.length:Int))=true:=by simp;omega
  simp only[if_neg h2,this];cases h3:(ow.getD n.toNat 0 != 255)<;>simp_all
theorem argP_eq (T:List Int) (nf:Int) (ow:List Int) (lo:Int) (c:List Int) (op n:Int) (h:op=20∨op=21→0≤n):argP T nf ow lo (insts c) op n=argB T nf ow lo c op n:=by
 unfold argP argB;rw[find_beg];by_cases h1:op=2∨op=3
 ·rw[if_pos h1,if_pos h1]
 ·rw[if_neg h1,if_neg h1];by_cases h2:11≤op∧op≤14
  ·rw[if_pos h2,if_pos h2]
  ·rw[if_neg h2,if_neg h2];by_cases h3:op=15∨op=16∨op=19
   ·rw[if_pos h3,if_pos h3]
   ·rw[if_neg h3,if_neg h3];by_cases h4:op=17∨op=18
    ·rw[if_pos h4,if_pos h4]
    ·rw[if_neg h4,if_neg h4];by_cases h5:op=20
     ·rw[if_pos h5,if_pos h5];exact(Qg ow n (h (.inl h5))).1
     ·rw[if_neg h5,if_neg h5];by_cases h6:op=21
      ·rw[if_pos h6,if_pos h6];exact(Qg ow n (h (.inr h6))).2
      ·rw[if_neg h6,if_neg h6]
theorem V9 (T c:List Int) (k n:Int):mapTy T (insts c) k n=framed T c k n:=by
 unfold mapTy framed Tr.settledB Tr.plainB;by_cases h4:k=4
 ·rw[if_pos h4,W6,if_neg (by omega),if_neg (by omega),if_pos h4]
 ·rw[if_neg h4];by_cases h02:k=0∨k=2
  ·rw[if_pos h02,if_pos (by omega)]
  ·rw[if_neg h02];by_cases h1:k=1
   ·rw[if_pos h1,if_pos (by omega)]
   ·have q:¬ (k=0∨k=1∨k=2):=by omega
    rw[if_neg h1,if_neg q];by_cases h3:k=3
    ·rw[if_pos h3,if_pos h3]
    ·rw[if_neg h3,if_neg h3,if_neg h4]
theorem Ly (T c:List Int) (l:List (Int × Int)):mapTys T (insts c) l=frAll T c l:=by
 unfold mapTys frAll
 congr 1
 funext t
 exact V9 T c t.1 t.2
theorem inMaps_eq (T c:List Int) (l:List Rd.Mp):∀ (i:Nat) (low:Int),inMaps T (insts c) i low l=mapsBad T c i (low-1) l:=by
 induction l with
 | nil=>intro i low;rfl
 | cons x r ih =>
  intro i low;rw[inMaps,mapsBad,ih];unfold mapMay;rw[find_beg,Ly,Ly];by_cases h1:x.place<low
  ·rw[if_pos h1,if_pos (show x.place≤low-1 by omega)]
   simp
  ·rw[if_neg h1,if_neg (show ¬ x.place≤low-1 by omega)];cases begB c x.place<;>cases frAll T c x.locals<;>cases frAll T c x.stack<;>simp
theorem hndMay_eq {T:List Int} (hT:Tr.Ok T) (_h1:1<T.length) (c:List Int) (x:Rd.Hnd):hndMay T (insts c) (c.length:Int) x = !hndBad T c x:=by
 have kw:Tr.within T x.cl 1=(if x.cl=1 then true else Tr.below T x.cl 1):=by
  unfold Tr.within;by_cases h:x.cl=1<;>simp[h]
 unfold hndMay hndBad;rw[find_beg,find_beg,find_beg,kw];by_cases a1:x.til≤x.frm
 ·rw[if_pos a1];simp[a1]
 ·rw[if_neg a1];have a1':decide (x.til≤x.frm)=false:=by simpa using a1
  rw[a1'];cases begB c x.frm
  ·simp
  ·cases begB c x.target
   ·simp
   ·have key:(if x.cl=1 then true else Tr.below T x.cl 1)=(Tr.hasB T x.cl&&Tr.rbel T x.cl 1):=by
     by_cases hh:Tr.hasB T x.cl=true
     ·rw[hh,Bool.true_and];have hb:0≤x.cl∧x.cl<(T.length:Int):=by simpa[Tr.hasB] using hh
      have e:=Tr.rbel_iff hT (a:=x.cl) (b:=1) hb.1 hb.2 (by omega);by_cases h:x.cl=1
      ·rw[if_pos h];exact(e.2 (.inl h.symm)).symm
      ·rw[if_neg h];refine Bool.eq_iff_iff.2 ⟨fun g=>e.2 (.inr g),fun g=>?_⟩;rcases e.1 g with g | g
       ·exact absurd g.symm h
       ·exact g
     ·have hh':Tr.hasB T x.cl=false:=by simpa using hh
      rw[hh',Bool.false_and];have hn:¬ (0≤x.cl∧x.cl<(T.length:Int)):=by simpa[Tr.hasB] using hh
      rw[if_neg (by omega)];have hov:Tr.ov T x.cl = -1:=by
       unfold Tr.ov;by_cases g:x.cl<0
       ·rw[if_pos g]
       ·rw[if_neg g,if_pos (by omega)]
      unfold Tr.below;rw[hov];cases T.length<;>simp[Tr.upTo]
    rw[key];by_cases h2:x.til=(c.length:Int)
    ·cases begB c x.til<;>cases Tr.hasB T x.cl<;>cases Tr.rbel T x.cl 1<;>simp[h2]
    ·cases begB c x.til<;>cases Tr.hasB T x.cl<;>cases Tr.rbel T x.cl 1<;>simp[h2]
theorem Og (a b:List Rd.Cls):fieldSum (a++b)=fieldSum a+fieldSum b:=by
 induction a with
 | nil=>simp[fieldSum]
 | cons x r ih=>rw[List.cons_append,fieldSum,fieldSum,ih];omega
theorem fields_eq (T:List Int) (cs:List Rd.Cls) (j:Nat) (hj:j≤cs.length):(Rf.fieldsTo T (Rf.given++cs) j).length=fieldSum (cs.take j):=by
 induction j with
 | zero=>simp[Rf.fieldsTo,fieldSum]
 | succ k ih =>
  have hk:k<cs.length:=by omega
  have e:(Rf.given++cs).getD (7+k) ⟨0,[]⟩=cs[k]:=by
   rw[List.getD_eq_getElem?_getD,List.getElem?_append_right (by simp[Rf.given])];simp[Rf.given,hk]
  rw[Rf.fieldsTo,List.length_append,Rf.ownOf,Dp,e,ih (by omega),List.take_succ_eq_append_getElem hk,Og];simp[fieldSum]
end Go.Proofs.YtcefiamkoincoaaGreat.Cd
namespace Go.Proofs.YtcefiamkoincoaaGreat
open Go.RowKit
def Acd (f:Cd.Ins→Bool):List Cd.Ins→Int
 | []=>-1
 | x::r=>if f x=true then x.place else Acd f r
def Ada (T:List Int) (nf:Int) (ow:List Int) (lo:Int) (L:List Cd.Ins) (x:Cd.Ins):Bool:=!Cd.argP T nf ow lo L x.op x.n
def Adm (T:List Int) (L:List Cd.Ins) (cn:Int) (x:Rd.Hnd):Bool:=!Cd.hndMay T L cn x
def Adh (T:List Int) (nf:Int) (ow:List Int) (m:Rd.Mth):Int × Int :=
 if 0≤Cd.unread m.code then (5,Cd.unread m.code)
 else if 0≤Acd (Ada T nf ow m.locals (Cd.insts m.code)) (Cd.insts m.code) then (5,Acd (Ada T nf ow m.locals (Cd.insts m.code)) (Cd.insts m.code))
 else if 0≤Cd.firstIx (Adm T (Cd.insts m.code) (m.code.length:Int)) 0 m.handlers then (6,Cd.firstIx (Adm T (Cd.insts m.code) (m.code.length:Int)) 0 m.handlers)
 else Cd.faultOf (Cd.inMaps T (Cd.insts m.code) 0 0 m.maps)
def Abe (T:List Int) (nf:Int) (ow:List Int):Nat→List Rd.Mth→Int × Int × Int
 | _,[]=>(0,0,0)
 | k,m::r=>if (Adh T nf ow m).1≠0 then ((Adh T nf ow m).1,(k:Int),(Adh T nf ow m).2) else Abe T nf ow (k+1) r
def Adj (T:List Int) (r1 r2:Int):Bool:=if r1=0∧r2=0 then true else Tr.plainB T r1 r2
def Ac6 (a b:Rd.Mth):Bool:=if a.result≠b.result then false else decide (a.params=b.params)
def Adl (T:List Int) (m:Rd.Mth):Bool :=
 if Tr.allPlainB T m.params=false then false else if Adj T m.result.1 m.result.2=false then false
 else if m.cl=255 then (if m.name=0 then decide ((m.params.length:Int)≤m.locals) else false)
 else if m.cl<7 then false else if Tr.hasB T m.cl=false then false else decide ((m.params.length:Int)<m.locals)
def Acy (m o:Rd.Mth):Bool:=(o.cl==m.cl)&&(o.name==m.name)
def Abq (T:List Int) (m o:Rd.Mth):Bool:=(o.name==m.name)&&(Tr.below T m.cl o.cl && !Ac6 o m)
def Ads (es:List Rd.Mth) (m:Rd.Mth):Bool:=if m.cl=255 then false else es.any (Acy m)
def Acx (T:List Int) (ms:List Rd.Mth) (m:Rd.Mth):Bool:=if m.cl=255 then false else ms.any (Abq T m)
def Ad9 (T:List Int) (ms:List Rd.Mth) (k:Nat) (m:Rd.Mth):Bool :=
 if Adl T m=false then true else if Ads (ms.take k) m=true then true else Acx T ms m
def Ab1 (T:List Int) (ms:List Rd.Mth):Nat→List Rd.Mth→Int
 | _,[]=>-1
 | k,m::r=>if Ad9 T ms k m=true then (k:Int) else Ab1 T ms (k+1) r
def Aem (T:List Int) (nf:Int) (ms:List Rd.Mth):Int × Int × Int :=
 if 0≤Ab1 T ms 0 ms then (4,Ab1 T ms 0 ms,0) else Abe T nf (ms.map Rd.Mth.cl) 0 ms
def Ac9 (f:Rd.Fil):Int × Int × Int :=
 if (Tr.inCl (Tr.tree f.classes) 0 f.classes).1≠0 then ((Tr.inCl (Tr.tree f.classes) 0 f.classes).1,(Tr.inCl (Tr.tree f.classes) 0 f.classes).2,0)
 else Aem (Tr.tree f.classes) (Cd.fieldSum f.classes:Int) f.methods
def Acq (s:List UInt8):Int × Int × Int:=if (Rd.read s).2≠0 then ((Rd.read s).2,0,0) else Ac9 (Rd.read s).1
theorem Ih {f:Nat→Bool}{l:List Nat} (h:Cd.first f l<0):∀ p∈l,f p=false:=by
 induction l with
 | nil=>simp
 | cons p r ih =>
  obtain⟨h1,h2⟩:=Mi h;intro q hq;simp only[List.mem_cons]at hq;rcases hq with rfl|hq
  ·exact h1
  ·exact ih h2 q hq
theorem Xc {T:List Int}{nf:Int}{ow:List Int}{lo:Int}{c:List Int}{op:Int} (h:Cd.wd op=1) (n n':Int):Cd.argB T nf ow lo c op n=Cd.argB T nf ow lo c op n':=by
 unfold Cd.wd at h;have h':¬ (op=0∨op=2∨op=3∨(11≤op∧op≤21)):=by
  intro g;rw[if_pos g]at h;omega
 unfold Cd.argB;rw[if_neg (by omega),if_neg (by omega),if_neg (by omega),if_neg (by omega),if_neg (by omega),if_neg (by omega)];rw[if_neg (by omega),if_neg (by omega),if_neg (by omega),if_neg (by omega),if_neg (by omega),if_neg (by omega)]
theorem Hz {c:List Int} (h0:∀ x∈c,0≤x) (i:Nat):0≤c.getD i 0:=by
 rw[List.getD_eq_getElem?_getD];by_cases h:i<c.length
 ·rw[List.getElem?_eq_getElem h];exact h0 _ (List.getElem_mem h)
 ·rw[List.getElem?_eq_none (by omega)]
  simp
theorem Sf {T:List Int}{nf:Int}{ow:List Int}{lo:Int}{c:List Int} (h0:∀ x∈c,0≤x) (ps:List Nat) (hp:∀ p∈ps,Cd.noRead c p=false) :
  Acd (Ada T nf ow lo (Cd.insts c)) (ps.map (Cd.insAt c))=Cd.first (Cd.badArg T nf ow lo c) ps:=by
 induction ps with
 | nil=>rfl
 | cons p r ih =>
  rw[List.map_cons,Acd,Cd.first,ih (fun q hq=>hp q (List.mem_cons_of_mem _ hq))]
  have hn:=hp p (List.mem_cons_self ..);unfold Cd.noRead at hn;simp only[Bool.or_eq_false_iff,decide_eq_false_iff_not]at hn;have key:Ada T nf ow lo (Cd.insts c) (Cd.insAt c p)=Cd.badArg T nf ow lo c p:=by
   unfold Ada Cd.badArg Cd.argAt Cd.insAt;simp only;have hw:=Cd.wd_bd (c.getD p 0);by_cases h2:Cd.wd (c.getD p 0)=2
   ·rw[if_pos h2,Cd.argP_eq T nf ow lo c _ _ (fun _=>Hz h0 _)];unfold Cd.nAt;rw[if_pos (by omega)]
   ·rw[if_neg h2,Cd.argP_eq T nf ow lo c _ _ (fun _=>by omega),Xc (by omega) 0 (Cd.nAt c p)]
  rw[key];rfl
theorem Rm {α:Type}{f g:α→Bool} (h:∀ x,f x=g x) (l:List α):∀ k,Cd.firstIx f k l=Cd.firstIx g k l:=by
 induction l with
 | nil=>intro k;rfl
 | cons x r ih=>intro k;rw[Cd.firstIx,Cd.firstIx,h x,ih]
theorem Yl {T:List Int} (hT:Tr.Ok T) (h1:1<T.length) (nf:Int) (ow:List Int) (m:Rd.Mth) (h0:∀ x∈m.code,0≤x):Adh T nf ow m=Adg T nf ow m:=by
 unfold Adh Adg Cd.badCode;by_cases hu:0≤Cd.unread m.code
 ·rw[if_pos hu,if_pos hu,if_pos hu]
 ·rw[if_neg hu,if_neg hu];have e1:Acd (Ada T nf ow m.locals (Cd.insts m.code)) (Cd.insts m.code)=Cd.first (Cd.badArg T nf ow m.locals m.code) (Cd.places m.code) :=
   Sf h0 (Cd.places m.code) (Ih (by unfold Cd.unread at hu;omega))
  have e2:Cd.firstIx (Adm T (Cd.insts m.code) (m.code.length:Int)) 0 m.handlers=Cd.firstIx (Cd.hndBad T m.code) 0 m.handlers :=
   Rm (fun x=>by unfold Adm;rw[Cd.hndMay_eq hT h1];simp) m.handlers 0
  rw[e1,e2,Cd.inMaps_eq];by_cases h2:0≤Cd.first (Cd.badArg T nf ow m.locals m.code) (Cd.places m.code)
  ·rw[if_pos h2,if_pos h2]
  ·rw[if_neg h2,if_neg h2];by_cases h3:0≤Cd.firstIx (Cd.hndBad T m.code) 0 m.handlers
   ·rw[if_pos h3,if_pos h3]
   ·rw[if_neg h3,if_neg h3];rw[show ((0:Int)-1) = -1 from rfl];generalize Cd.mapsBad T m.code 0 (-1) m.maps=q;unfold Cd.faultOf;by_cases h4:q<0
    ·rw[if_pos h4,if_neg (by omega)]
    ·rw[if_neg h4,if_pos (by omega)]
theorem Vk {T:List Int} (hT:Tr.Ok T) (h1:1<T.length) (nf:Int) (ow:List Int) (l:List Rd.Mth) (h0:∀ m∈l,∀ x∈m.code,0≤x):∀ k,Abe T nf ow k l=Ab2 T nf ow k l:=by
 induction l with
 | nil=>intro k;rfl
 | cons m r ih =>
  intro k;rw[Abe,Ab2,Yl hT h1 nf ow m (h0 m (List.mem_cons_self ..)),ih (fun x hx=>h0 x (List.mem_cons_of_mem _ hx))]
theorem Rs {T:List Int} (hT:Tr.Ok T) {a:Int} (h0:0≤a) (hl:a<(T.length:Int)):Tr.below T a a=false:=by
 cases h:Tr.below T a a with
 | false=>rfl
 | true=>have:=Tr.below_lt hT h0 hl h;omega
theorem Td {T:List Int} (hT:Tr.Ok T) {a b:Int} (h0:0≤b) (hl:a<(T.length:Int)) (hb:a≤b):Tr.below T a b=false:=by
 cases h:Tr.below T a b with
 | false=>rfl
 | true=>have:=Tr.below_lt hT h0 hl h;omega
theorem Wk {T:List Int} (hT:Tr.Ok T) (hT2:T.length≤200) (m o:Rd.Mth) (hc0:0≤m.cl) (hc:m.cl<(T.length:Int)) (ho:0≤o.cl) (k i:Nat) :
  Aef T m.cl m.name m.result.1 m.result.2 m.params k i o=((decide (i<k)&&Acy m o) || Abq T m o):=by
 unfold Aef Acy Abq;by_cases h1:o.name≠m.name
 ·rw[if_pos h1];have:(o.name==m.name)=false:=by simpa using h1
  rw[this]
  simp
 ·rw[if_neg h1];have e1:(o.name==m.name)=true:=by simpa using h1
  rw[e1];by_cases h2:o.cl=255
  ·rw[if_pos h2,h2,Td hT (by omega) hc (by omega)];have:((255:Int)==m.cl)=false:=by simp;omega
   rw[this]
   simp
  ·rw[if_neg h2];by_cases h3:o.cl=m.cl
   ·rw[if_pos h3,h3,Rs hT hc0 hc]
    simp
   ·rw[if_neg h3];have e3:(o.cl==m.cl)=false:=by simpa using h3
    have e4:Tr.rbel T m.cl o.cl=Tr.below T m.cl o.cl:=by
     have e:=Tr.rbel_iff hT hc0 hc ho;refine Bool.eq_iff_iff.2 ⟨fun g=>?_,fun g=>e.2 (.inr g)⟩;rcases e.1 g with g | g
     ·exact absurd g h3
     ·exact g
    rw[e3,e4];unfold Ac6;by_cases h5:o.result=m.result
    ·simp[h5]
    ·simp[h5]
theorem Yk {T:List Int} (hT:Tr.Ok T) (hT2:T.length≤200) (m:Rd.Mth) (hc0:0≤m.cl) (hc:m.cl<(T.length:Int)) (k:Nat) (l:List Rd.Mth) (ho:∀ o∈l,0≤o.cl) :
  ∀ i,Aa7 T m.cl m.name m.result.1 m.result.2 m.params k i l=(!(l.take (k-i)).any (Acy m) && !l.any (Abq T m)):=by
 induction l with
 | nil=>intro i;simp[Aa7]
 | cons o r ih =>
  intro i;rw[Aa7,Wk hT hT2 m o hc0 hc (ho o (List.mem_cons_self ..)),ih (fun x hx=>ho x (List.mem_cons_of_mem _ hx))];by_cases hi:i<k
  ·rw[show k-i=(k-(i+1))+1 by omega,List.take_succ_cons,List.any_cons,List.any_cons];have:decide (i<k)=true:=by simpa using hi
   rw[this];cases Acy m o<;>cases Abq T m o<;>simp
  ·rw[show k-i=0 by omega,show k-(i+1)=0 by omega,List.any_cons];have:decide (i<k)=false:=by simpa using hi
   rw[this];cases Abq T m o<;>simp
theorem Xj {T:List Int} (hT:Tr.Ok T) (hT2:T.length≤200) (ms:List Rd.Mth) (ho:∀ o∈ms,0≤o.cl) (k:Nat) (m:Rd.Mth) (_hm:0≤m.cl):Ad9 T ms k m = !Acp T ms k m:=by
 unfold Ad9 Acp Ad1 Adl Adj Ads Acx Aeo Abt;cases hp:Tr.allPlainB T m.params with
 | false=>simp
 | true =>
  have hres:(if m.result.1=0∧m.result.2=0 then true else Tr.plainB T m.result.1 m.result.2) = !(!Tr.plainB T m.result.1 m.result.2 && !decide ((m.result.1,m.result.2)=((0:Int),(0:Int)))):=by
   by_cases h:m.result.1=0∧m.result.2=0
   ·rw[if_pos h];simp[h]
   ·rw[if_neg h];have:decide ((m.result.1,m.result.2)=((0:Int),(0:Int)))=false:=by simpa using h
    rw[this]
    simp
  rw[hres];generalize (!Tr.plainB T m.result.1 m.result.2 && !decide ((m.result.1,m.result.2)=((0:Int),(0:Int))))=R;cases R with
  | true=>simp
  | false =>
   by_cases h1:m.cl=255
   ·simp only[if_pos h1];by_cases h2:m.name=0
    ·by_cases h3:(m.params.length:Int)≤m.locals
     ·have h3':¬ m.locals<(m.params.length:Int):=by omega
      simp[h1,h2,h3,h3']
     ·have h3':m.locals<(m.params.length:Int):=by omega
      simp[h1,h2,h3,h3']
    ·simp[h2]
   ·simp only[if_neg h1];by_cases h2:m.cl<7
    ·simp[h2]
    ·cases h3:Tr.hasB T m.cl with
     | false=>simp[h2]
     | true =>
      have hb:0≤m.cl∧m.cl<(T.length:Int):=by simpa[Tr.hasB] using h3
      by_cases h4:(m.params.length:Int)<m.locals
      ·have h4':¬ m.locals<(m.params.length:Int):=by omega
       have h4'':¬ m.locals=(m.params.length:Int):=by omega
       rw[Yk hT hT2 m hb.1 hb.2 k ms ho 0];simp only[Nat.sub_zero];cases (ms.take k).any (Acy m)<;>cases ms.any (Abq T m)<;>simp[h1,h2,h4,h4',h4'']
      ·by_cases h5:m.locals<(m.params.length:Int)
       ·simp[h1,h2,h4,h5]
       ·have h6:m.locals=(m.params.length:Int):=by omega
        simp[h1,h2,h6]
theorem Xe {T:List Int} (hT:Tr.Ok T) (hT2:T.length≤200) (ms:List Rd.Mth) (ho:∀ o∈ms,0≤o.cl) (l:List Rd.Mth) (hl:∀ o∈l,0≤o.cl):∀ k,Ab1 T ms k l=Abz T ms k l:=by
 induction l with
 | nil=>intro k;rfl
 | cons m r ih =>
  intro k;rw[Ab1,Abz,Xj hT hT2 ms ho k m (hl m (List.mem_cons_self ..)),ih (fun x hx=>hl x (List.mem_cons_of_mem _ hx))];cases Acp T ms k m<;>simp
theorem Qe {T:List Int} (hT:Tr.Ok T) (hT2:T.length≤200) (h1:1<T.length) (nf:Int) (ms:List Rd.Mth) (ho:∀ o∈ms,0≤o.cl) (h0:∀ m∈ms,∀ x∈m.code,0≤x):Aem T nf ms=Aeb T nf ms:=by
 unfold Aem Aeb;rw[Xe hT hT2 ms ho ms ho,Vk hT h1 nf _ ms h0]
structure Ad5 (m:Rd.Mth):Prop where
 ps:m.params.length≤8
 code:m.code.length≤120
 code0:∀ x∈m.code,0≤x
 hs:m.handlers.length≤4
 mp:m.maps.length≤64
 fr:∀ p∈m.maps,p.locals.length≤8∧p.stack.length≤8∧0≤p.place∧p.place≤255
 cl:0≤m.cl
theorem Zo (s:List UInt8) (L H:Int) (hL:L≤8) (hH0:0≤H) (hH:H≤8) (t:Rd.St):(Rd.mp s L H t).1.locals.length≤8∧(Rd.mp s L H t).1.stack.length≤8∧0≤(Rd.mp s L H t).1.place∧(Rd.mp s L H t).1.place≤255:=by
 simp only[Rd.mp,Rd.tys,Rd.rep_len];have:=Rd.cn_bd s 0 H (Rd.rep (Rd.ty s) L.toNat (Rd.nx s t).2).2 hH0;have:=Rd.nx_bd s t;omega
theorem Xv (s:List UInt8) (t:Rd.St):Ad5 (Rd.mth s t).1:=by
 simp only[Rd.mth];generalize (Rd.nx s (Rd.nx s t).2).2=t1;have h1:=Rd.cn_bd s 0 4 t1 (by omega);generalize Rd.cn s 0 4 t1=p at *;generalize (Rd.tys s p.1.toNat p.2).2=t2;generalize (Rd.ty s t2).2=t3;have h2:=Rd.cn_bd s 0 8 t3 (by omega);generalize Rd.cn s 0 8 t3=l at *;have h3:=Rd.cn_bd s 0 8 l.2 (by omega);generalize Rd.cn s 0 8 l.2=h at *;refine⟨?_,?_,?_,?_,?_,?_,?_⟩
 ·simp only[Rd.tys,Rd.rep_len];omega
 ·simp only[Rd.codes,Rd.rep_len];have:=Rd.cn_bd s 1 120 h.2 (by omega);omega
 ·simp only[Rd.codes];exact Eg (fun x:Int=>0≤x) _ (fun t=>N8 s t) _ _
 ·simp only[Rd.hnds,Rd.rep_len];have:=Rd.cn_bd s 0 4 (Rd.codes s h.2).2 (by omega);omega
 ·simp only[Rd.mps,Rd.rep_len];have:=Rd.cn_bd s 0 64 (Rd.hnds s (Rd.codes s h.2).2).2 (by omega);omega
 ·simp only[Rd.mps];exact Eg (fun p:Rd.Mp=>p.locals.length≤8∧p.stack.length≤8∧0≤p.place∧p.place≤255) _ (fun t=>Zo s l.1 h.1 h2.2 h3.1 h3.2 t) _ _
 ·exact N8 s t
theorem Gi (s:List UInt8):(Rd.read s).1.methods.length≤6∧∀ m∈(Rd.read s).1.methods,Ad5 m:=by
 unfold Rd.read
 split
 ·simp
 ·split
  ·simp
  ·simp only[Rd.fil];refine⟨?_,Eg Ad5 _ (fun t=>Xv s t) _ _⟩;rw[Rd.rep_len];have:=Rd.cn_bd s 1 6 (Rd.rep (Rd.cls s) (Rd.cn s 0 6 (Rd.ex s 77 (Rd.ex s 83 ⟨0,false⟩))).1.toNat (Rd.cn s 0 6 (Rd.ex s 77 (Rd.ex s 83 ⟨0,false⟩))).2).2 (by omega);omega
theorem Uv (l:List Int) (cs:List Rd.Cls):∀ k:Nat,((Tr.inCl l k cs).1=0∨(Tr.inCl l k cs).1=3)∧0≤(Tr.inCl l k cs).2:=by
 induction cs with
 | nil=>intro k;exact⟨.inl rfl,by show (0:Int)≤0;omega⟩
 | cons c r ih =>
  intro k;unfold Tr.inCl
  split
  ·exact⟨.inr rfl,by show (0:Int)≤7+(k:Int);omega⟩
  ·split
   ·exact⟨.inr rfl,by show (0:Int)≤7+(k:Int);omega⟩
   ·exact ih _
theorem Gt (s:List UInt8):Acq s=Rf.formed s:=by
 obtain⟨h1,h2⟩:=J6 s;have hok:=Sq s;obtain⟨hm6,hmb⟩:=Gi s;obtain⟨hc6,_⟩:=Gy s;unfold Acq Rf.formed Rf.nf;unfold Rf.classed at hok ⊢;by_cases hl:15000<s.length
 ·rw[if_pos hl]at h1;rw[h1];simp[hl]
 ·rw[if_neg hl]at h1;simp only[if_neg hl]at hok ⊢;by_cases hf:(Rf.fil s).2.2≠(s.length:Int)
  ·rw[if_pos hf]at h1;rw[h1];simp[hf]
  ·rw[if_neg hf]at h1;simp only[if_neg hf]at hok ⊢;rw[if_neg (by rw[h1];simp)];obtain⟨hcs,hms⟩:=h2 h1;unfold Ac9;rw[hcs]at hc6;rw[hms]at hm6 hmb;rw[hcs,hms];have hw:=Uv (Tr.tree (Rf.fil s).1) (Rf.fil s).1 0;have hnf:=Cd.fields_eq (Tr.tree (Rf.fil s).1) (Rf.fil s).1 (Rf.fil s).1.length (Nat.le_refl _);rw[List.take_length]at hnf;rw[hnf];generalize hI:Tr.inCl (Tr.tree (Rf.fil s).1) 0 (Rf.fil s).1=I at *;by_cases h0:I.1=0
   ·have hb:¬ 0≤Tr.badOf I:=by unfold Tr.badOf;rw[if_pos h0];omega
    simp only[if_neg hb]at hok ⊢;rw[if_neg (fun h=>h h0),if_neg (by simp)];have hT:=(hok trivial).1;have hTl:=Cc (Rf.fil s).1;exact Qe hT (by omega) (by omega) _ _ (fun o ho=>(hmb o ho).cl) (fun m hm=>(hmb m hm).code0)
   ·have hb:0≤Tr.badOf I:=by unfold Tr.badOf;rw[if_neg h0];exact hw.2
    have e:Tr.badOf I=I.2:=by unfold Tr.badOf;rw[if_neg h0]
    have e3:I.1=3:=hw.1.resolve_left h0;rw[if_pos h0,if_pos hb,if_pos (by simp),e,e3]
structure PM where
 cl:Int
 nm:Int
 pa:Option Addr
 pl:Nat
 pc:Nat
 r1:Int
 r2:Int
 lo:Int
 st:Int
 ca:Option Addr
 cn:Nat
 cc:Nat
 ha:Option Addr
 hl:Nat
 hc:Nat
 ma:Option Addr
 ml:Nat
 mc:Nat
def PM.val (m:PM):Value:=.agg #[.int .i64 m.cl,.int .i64 m.nm,.slice m.pa m.pl m.pc,.int .i64 m.r1,.int .i64 m.r2,.int .i64 m.lo,.int .i64 m.st,.slice m.ca m.cn m.cc,.slice m.ha m.hl m.hc,.slice m.ma m.ml m.mc]
def PM.list (m:PM):List Value:=[.int .i64 m.cl,.int .i64 m.nm,.slice m.pa m.pl m.pc,.int .i64 m.r1,.int .i64 m.r2,.int .i64 m.lo,.int .i64 m.st,.slice m.ca m.cn m.cc,.slice m.ha m.hl m.hc,.slice m.ma m.ml m.mc]
structure PM.is (m:PM) (x:Rd.Mth) (w:World) (bb:Nat):Prop where
 cl:m.cl=x.cl
 nm:m.nm=x.name
 r1:m.r1=x.result.1
 r2:m.r2=x.result.2
 lo:m.lo=x.locals
 st:m.st=x.stack
 pl:m.pl=x.params.length
 ps:TysAt w bb (.slice m.pa m.pl m.pc) x.params
 cn:m.cn=x.code.length
 code:IntsAt w bb (.slice m.ca m.cn m.cc) x.code
 hl:m.hl=x.handlers.length
 hs:HndsAt w bb (.slice m.ha m.hl m.hc) x.handlers
 ml:m.ml=x.maps.length
 mp:Xg w bb (.slice m.ma m.ml m.mc) x.maps
theorem PM.is.kp {m:PM}{x:Rd.Mth}{w w':World}{bb:Nat} (h:m.is x w bb) {e:Option TypeId} (hk:Kp e bb w w') (a1:some 39≠e) (a2:some 3≠e) (a3:some 219≠e) (a4:some 218≠e):m.is x w' bb:=by
 obtain⟨h1,h2,h3,h4,h5,h6,h7,h8,h9,h10,h11,h12,h13,l,hl,h14⟩:=h;exact⟨h1,h2,h3,h4,h5,h6,h7,h8.kp hk a1,h9,h10.kp hk a2,h11,h12.kp hk a3,h13,l,hl,h14.kp hk a4 a1⟩
theorem PM.is.below {m:PM}{x:Rd.Mth}{w w':World}{bb:Nat} (h:m.is x w bb) (hb:Below w.heap.size w w'):m.is x w' bb:=h.kp (Kp.of_below (e:=none) hb) (by decide) (by decide) (by decide) (by decide)
theorem Ws (l:List (Rd.Mth × MthV)) (k:Nat) (hk:k<l.length) (j:Nat) (hj:j<10):(Cb l)[k*10+j]?=(Cj l[k].1 l[k].2)[j]?∧k*10+j<(Cb l).length:=by
 refine⟨Dq (fun x:Rd.Mth × MthV=>Cj x.1 x.2) 10 (fun _=>rfl) l k hk j hj,?_⟩;unfold Cb;rw[Cx (fun x:Rd.Mth × MthV=>Cj x.1 x.2) 10 (fun _=>rfl) l];omega
theorem MthsIn.mth {w:World}{b:Nat}{a:Option Addr}{n c:Nat}{l:List (Rd.Mth × MthV)} (h:MthsIn w b (.slice a n c) l) {k:Nat} (hk:k<l.length) :
  ∃ (m:PM) (g:Nat),a=some ⟨g,0,none⟩∧g<w.heap.size∧(∀ j v,m.list[j]?=some v→w.cell? ⟨g,k*10+j,none⟩=some v)∧m.is l[k].1 w b:=by
 obtain⟨hrow,hall⟩:=h;obtain⟨xa,xc,hsh⟩:=Af hrow;simp only[Value.slice.injEq]at hsh;obtain⟨rfl,rfl,rfl⟩:=hsh;obtain⟨g,hg,hglt,_,hcell⟩:=Ao hrow (by omega);obtain⟨hp,hc,hh,lm,hlm,hm⟩:=hall _ (List.getElem_mem hk);have hat:=fun j hj=>Ws l k hk j hj;generalize l[k]=x at *;obtain⟨x,u⟩:=x;obtain⟨up,uc,uh,um⟩:=u;simp only at hp hc hh hm hat;obtain⟨pa,pc,rfl⟩:=Af hp;obtain⟨ca,cc,rfl⟩:=Af hc;obtain⟨ha,hc',rfl⟩:=Af hh;obtain⟨ma,mc,rfl⟩:=Af hm.1;have hml:lm.length=x.maps.length:=by rw[← hlm];simp
 refine⟨⟨x.cl,x.name,pa,x.params.length,pc,x.result.1,x.result.2,x.locals,x.stack,ca,x.code.length,cc,ha,x.handlers.length,hc',ma,lm.length,mc⟩,g,hg,hglt,?_,⟨rfl,rfl,rfl,rfl,rfl,rfl,rfl,hp,rfl,hc,rfl,hh,hml,lm,hlm,hm⟩⟩;intro j v hv;have hj:j<10:=by
  have:=(List.getElem?_eq_some_iff.1 hv).1
  simpa[PM.list] using this
 obtain⟨e1,e2⟩:=hat j hj;rw[hcell _ e2,e1,← hv];rfl
theorem Hy {m:PM}{w:World}{g k:Nat} (h:∀ j v,m.list[j]?=some v→w.cell? ⟨g,k*10+j,none⟩=some v) :
  w.cell? ⟨g,k*10,none⟩=some (.int .i64 m.cl)∧w.cell? ⟨g,k*10+1,none⟩=some (.int .i64 m.nm)∧w.cell? ⟨g,k*10+2,none⟩=some (.slice m.pa m.pl m.pc)∧w.cell? ⟨g,k*10+3,none⟩=some (.int .i64 m.r1) ∧
  w.cell? ⟨g,k*10+4,none⟩=some (.int .i64 m.r2)∧w.cell? ⟨g,k*10+5,none⟩=some (.int .i64 m.lo)∧w.cell? ⟨g,k*10+6,none⟩=some (.int .i64 m.st)∧w.cell? ⟨g,k*10+7,none⟩=some (.slice m.ca m.cn m.cc) ∧
  w.cell? ⟨g,k*10+8,none⟩=some (.slice m.ha m.hl m.hc)∧w.cell? ⟨g,k*10+9,none⟩=some (.slice m.ma m.ml m.mc) :=
 ⟨h 0 _ rfl,h 1 _ rfl,h 2 _ rfl,h 3 _ rfl,h 4 _ rfl,h 5 _ rfl,h 6 _ rfl,h 7 _ rfl,h 8 _ rfl,h 9 _ rfl⟩
variable {ya:Option Addr}{yn yc:Nat}
theorem M7 (T:List Int) (a:Option Addr) (cap:Nat) (k n:Int) (w:World) :
  Calls Tryz.prog 160 #[.agg #[.slice a T.length cap,.slice ya yn yc],.agg #[.int .i64 k,.int .i64 n]] w fun e w'=>e=.returned (.bool (Adj T k n))∧Below w.heap.size w w':=by
 have hP:=fun w=>Fb (ya:=ya) (yn:=yn) (yc:=yc) T a cap k n w;unfold Adj;generalize Tr.plainB T k n=P at *;have HP:=Ac hP;clear hP;by_cases h:k=0∧n=0
 ·rw[if_pos h];obtain⟨rfl,rfl⟩:=h;go_enter Tryz.func160,Tryz.ntmps160;go_wp2;go_ret;exact⟨rfl,Ak _ _ _⟩
 ·rw[if_neg h];by_cases hk:k=0
  ·subst hk;have hn:(n==0)=false:=by simpa using h
   clear h;go_enter Tryz.func160,Tryz.ntmps160;go_wp2_with fail
   refine(Aa HP _).mono ?_;rintro e w1 ⟨rfl,hb1⟩;go_wp2;go_ret;exact⟨rfl,(Ak _ _ _).trans (hb1.mono (by simp;omega))⟩
  ·have hn:(k==0)=false:=by simpa using hk
   clear h hk;go_enter Tryz.func160,Tryz.ntmps160;go_wp2_with fail
   refine(Aa HP _).mono ?_;rintro e w1 ⟨rfl,hb1⟩;go_wp2;go_ret;exact⟨rfl,(Ak _ _ _).trans (hb1.mono (by simp;omega))⟩
theorem Pi (T:List Int) (a:Option Addr) (cap bb:Nat) (m:PM) (x:Rd.Mth) (w:World) (hm:m.is x w bb) (hps:x.params.length≤1000) :
  Calls Tryz.prog 117 #[.agg #[.slice a T.length cap,.slice ya yn yc],m.val] w fun e w'=>e=.returned (.bool (Adl T x))∧Below w.heap.size w w':=by
 have hA:=fun w' (h:Below w.heap.size w w')=>Gf (ya:=ya) (yn:=yn) (yc:=yc) T a cap m.pa m.pl m.pc bb x.params w' hps (hm.below h).ps;have hR:=fun w=>M7 (ya:=ya) (yn:=yn) (yc:=yc) T a cap m.r1 m.r2 w;have hH:=fun w=>Ld (ya:=ya) (yn:=yn) (yc:=yc) T a cap m.cl w;generalize hr:Adl T x=R;unfold Adl at hr;rw[← hm.cl,← hm.nm,← hm.r1,← hm.r2,← hm.lo,← hm.pl]at hr;generalize Tr.allPlainB T x.params=A at *;clear hm hps;obtain⟨cl,nm,pa,pl,pc,r1,r2,lo,st,ca,cn,cc,ha,hl,hc,ma,ml,mc⟩:=m;simp only[PM.val]at hA hR hH hr ⊢;generalize Adj T r1 r2=B at *;generalize Tr.hasB T cl=K at *;have HA:=Ac hA;have HR:=Ac hR;have HH:=Ac hH;clear hA hR hH;have hB0:=Ak w (O2 a T.length cap ya yn yc) (O20 cl nm pa pl pc r1 r2 lo st ca cn cc ha hl hc ma ml mc);have CT0:=Ah w (O2 a T.length cap ya yn yc) (O20 cl nm pa pl pc r1 r2 lo st ca cn cc ha hl hc ma ml mc);have CM0:=Ag w (O2 a T.length cap ya yn yc) (O20 cl nm pa pl pc r1 r2 lo st ca cn cc ha hl hc ma ml mc);have hA0:=Ac (Aa HA _ hB0);clear HA;cases A with
 | false =>
  have HE:Hid (R=false):=by unfold Hid;rw[← hr];simp
  clear hr;go_enter Tryz.func117,Tryz.ntmps117;go_wp2_with fail
  refine(Aa hA0).mono ?_;rintro e w1 ⟨rfl,hb1⟩;go_wp2;go_ret;exact⟨by rw[Aa HE];rfl,QB hB0 hb1⟩
 | true =>
  cases B with
  | false =>
   have HE:Hid (R=false):=by unfold Hid;rw[← hr];simp
   clear hr;go_enter Tryz.func117,Tryz.ntmps117;go_wp2_with fail
   refine(Aa hA0).mono ?_;rintro e w1 ⟨rfl,hb1⟩;have hB1:=QB hB0 hb1;have CT1:=stay hb1 CT0;have CM1:=stay hb1 CM0;obtain⟨t0,t1⟩:=cl2 CT1;simp at t0 t1;obtain⟨m0,m1,m2,m3,m4,m5,m6,m7,m8,m9⟩:=Dc CM1;simp at m0 m1 m2 m3 m4 m5 m6 m7 m8 m9;go_wp2_with fail
   refine(Aa HR _).mono ?_;rintro e w2 ⟨rfl,hb2⟩;go_wp2;go_ret;exact⟨by rw[Aa HE];rfl,QB hB1 hb2⟩
  | true =>
   have HRR:Hid ((if cl=255 then (if nm=0 then decide ((pl:Int)≤lo) else false) else if cl<7 then false else if K=false then false else decide ((pl:Int)<lo))=R):=by unfold Hid;rw[← hr];simp
   clear hr;by_cases h1:cl=255
   ·subst h1;have hr:=Aa HRR;rw[if_pos rfl]at hr;clear HRR;by_cases h2:nm=0
    ·subst h2;rw[if_pos rfl]at hr;have HE:=Ac hr;clear hr;go_enter Tryz.func117,Tryz.ntmps117;go_wp2_with fail
     refine(Aa hA0).mono ?_;rintro e w1 ⟨rfl,hb1⟩;have hB1:=QB hB0 hb1;have CT1:=stay hb1 CT0;have CM1:=stay hb1 CM0;obtain⟨t0,t1⟩:=cl2 CT1;simp at t0 t1;obtain⟨m0,m1,m2,m3,m4,m5,m6,m7,m8,m9⟩:=Dc CM1;simp at m0 m1 m2 m3 m4 m5 m6 m7 m8 m9;go_wp2_with fail
     refine(Aa HR _).mono ?_;rintro e w2 ⟨rfl,hb2⟩;have hB2:=QB hB1 hb2;have CM2:=stay hb2 CM1;clear m0 m1 m2 m3 m4 m5 m6 m7 m8 m9;obtain⟨m0,m1,m2,m3,m4,m5,m6,m7,m8,m9⟩:=Dc CM2;simp at m0 m1 m2 m3 m4 m5 m6 m7 m8 m9;go_wp2;go_ret;exact⟨by rw[← Aa HE];rfl,hB2⟩
    ·rw[if_neg h2]at hr;have h2':(nm==0)=false:=by simpa using h2
     have HE:=Ac hr;clear hr h2;go_enter Tryz.func117,Tryz.ntmps117;go_wp2_with fail
     refine(Aa hA0).mono ?_;rintro e w1 ⟨rfl,hb1⟩;have hB1:=QB hB0 hb1;have CT1:=stay hb1 CT0;have CM1:=stay hb1 CM0;obtain⟨t0,t1⟩:=cl2 CT1;simp at t0 t1;obtain⟨m0,m1,m2,m3,m4,m5,m6,m7,m8,m9⟩:=Dc CM1;simp at m0 m1 m2 m3 m4 m5 m6 m7 m8 m9;go_wp2_with fail
     refine(Aa HR _).mono ?_;rintro e w2 ⟨rfl,hb2⟩;have hB2:=QB hB1 hb2;have CM2:=stay hb2 CM1;clear m0 m1 m2 m3 m4 m5 m6 m7 m8 m9;obtain⟨m0,m1,m2,m3,m4,m5,m6,m7,m8,m9⟩:=Dc CM2;simp at m0 m1 m2 m3 m4 m5 m6 m7 m8 m9;go_wp2;go_ret;exact⟨by rw[← Aa HE];rfl,hB2⟩
   ·have hr:=Aa HRR;rw[if_neg h1]at hr;have h1':(cl==255)=false:=by simpa using h1
    clear HRR h1;by_cases h2:cl<7
    ·rw[if_pos h2]at hr;have HE:=Ac hr;clear hr;go_enter Tryz.func117,Tryz.ntmps117;go_wp2_with fail
     refine(Aa hA0).mono ?_;rintro e w1 ⟨rfl,hb1⟩;have hB1:=QB hB0 hb1;have CT1:=stay hb1 CT0;have CM1:=stay hb1 CM0;obtain⟨t0,t1⟩:=cl2 CT1;simp at t0 t1;obtain⟨m0,m1,m2,m3,m4,m5,m6,m7,m8,m9⟩:=Dc CM1;simp at m0 m1 m2 m3 m4 m5 m6 m7 m8 m9;go_wp2_with fail
     refine(Aa HR _).mono ?_;rintro e w2 ⟨rfl,hb2⟩;have hB2:=QB hB1 hb2;have CM2:=stay hb2 CM1;clear m0 m1 m2 m3 m4 m5 m6 m7 m8 m9;obtain⟨m0,m1,m2,m3,m4,m5,m6,m7,m8,m9⟩:=Dc CM2;simp at m0 m1 m2 m3 m4 m5 m6 m7 m8 m9;go_wp2;go_ret;exact⟨by rw[← Aa HE];rfl,hB2⟩
    ·rw[if_neg h2]at hr;cases K with
     | false =>
      rw[if_pos rfl]at hr;have HE:=Ac hr;clear hr;go_enter Tryz.func117,Tryz.ntmps117;go_wp2_with fail
      refine(Aa hA0).mono ?_;rintro e w1 ⟨rfl,hb1⟩;have hB1:=QB hB0 hb1;have CT1:=stay hb1 CT0;have CM1:=stay hb1 CM0;obtain⟨t0,t1⟩:=cl2 CT1;simp at t0 t1;obtain⟨m0,m1,m2,m3,m4,m5,m6,m7,m8,m9⟩:=Dc CM1;simp at m0 m1 m2 m3 m4 m5 m6 m7 m8 m9;go_wp2_with fail
      refine(Aa HR _).mono ?_;rintro e w2 ⟨rfl,hb2⟩;have hB2:=QB hB1 hb2;have CM2:=stay hb2 CM1;have CT2:=stay hb2 CT1;clear m0 m1 m2 m3 m4 m5 m6 m7 m8 m9 t0 t1;obtain⟨t0,t1⟩:=cl2 CT2;simp at t0 t1;obtain⟨m0,m1,m2,m3,m4,m5,m6,m7,m8,m9⟩:=Dc CM2;simp at m0 m1 m2 m3 m4 m5 m6 m7 m8 m9;go_wp2_with fail
      refine(Aa HH _).mono ?_;rintro e w3 ⟨rfl,hb3⟩;go_wp2;go_ret;exact⟨by rw[← Aa HE];rfl,QB hB2 hb3⟩
     | true =>
      rw[if_neg (by simp)]at hr;have HE:=Ac hr;clear hr;go_enter Tryz.func117,Tryz.ntmps117;go_wp2_with fail
      refine(Aa hA0).mono ?_;rintro e w1 ⟨rfl,hb1⟩;have hB1:=QB hB0 hb1;have CT1:=stay hb1 CT0;have CM1:=stay hb1 CM0;obtain⟨t0,t1⟩:=cl2 CT1;simp at t0 t1;obtain⟨m0,m1,m2,m3,m4,m5,m6,m7,m8,m9⟩:=Dc CM1;simp at m0 m1 m2 m3 m4 m5 m6 m7 m8 m9;go_wp2_with fail
      refine(Aa HR _).mono ?_;rintro e w2 ⟨rfl,hb2⟩;have hB2:=QB hB1 hb2;have CM2:=stay hb2 CM1;have CT2:=stay hb2 CT1;clear m0 m1 m2 m3 m4 m5 m6 m7 m8 m9 t0 t1;obtain⟨t0,t1⟩:=cl2 CT2;simp at t0 t1;obtain⟨m0,m1,m2,m3,m4,m5,m6,m7,m8,m9⟩:=Dc CM2;simp at m0 m1 m2 m3 m4 m5 m6 m7 m8 m9;go_wp2_with fail
      refine(Aa HH _).mono ?_;rintro e w3 ⟨rfl,hb3⟩;have hB3:=QB hB2 hb3;have CM3:=stay hb3 CM2;clear m0 m1 m2 m3 m4 m5 m6 m7 m8 m9 t0 t1;obtain⟨m0,m1,m2,m3,m4,m5,m6,m7,m8,m9⟩:=Dc CM3;simp at m0 m1 m2 m3 m4 m5 m6 m7 m8 m9;go_wp2;go_ret;exact⟨by rw[← Aa HE];rfl,hB3⟩
end Go.Proofs.YtcefiamkoincoaaGreat
