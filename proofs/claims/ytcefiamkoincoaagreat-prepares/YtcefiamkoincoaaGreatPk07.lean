/- a part of the proof -/
import Derived.Deep.RegionHeld3
import Derived.Test.YtcefiamkoincoaaGreatPk06
set_option maxRecDepth 100000
set_option maxHeartbeats 40000000
set_option linter.unusedVariables false
set_option linter.unusedSimpArgs false
namespace Go.Proofs.YtcefiamkoincoaaGreat
open Go.RowKit
theorem Dq {α:Type} (f:α→List Value) (n:Nat) (hf:∀ x,(f x).length=n) (l:List α) (k:Nat) (hk:k<l.length) (j:Nat) (hj:j<n):(l.flatMap f)[k*n+j]?=(f l[k])[j]?:=by
 induction l generalizing k with
 | nil=>simp at hk
 | cons x r ih =>
  rw[List.flatMap_cons];cases k with
  | zero =>
   rw[List.getElem?_append_left (by rw[hf];omega)]
   simp
  | succ i =>
   rw[List.getElem?_append_right (by rw[hf,Nat.succ_mul];omega),hf,show (i+1)*n+j-n=i*n+j by rw[Nat.succ_mul];omega]
   simpa using ih i (by simpa using hk)
theorem Cx {α:Type} (f:α→List Value) (n:Nat) (hf:∀ x,(f x).length=n) (l:List α):(l.flatMap f).length=l.length*n:=by
 induction l with
 | nil=>simp
 | cons x r ih=>rw[List.flatMap_cons,List.length_append,hf,ih,List.length_cons,Nat.succ_mul];omega
theorem Ln (l:List (Rf.Mth × RMthV)) (k:Nat) (hk:k<l.length) (j:Nat) (hj:j<12):(Eb l)[k*12+j]?=(Cy l[k].1 l[k].2)[j]?∧k*12+j<(Eb l).length:=by
 refine⟨Dq (fun x:Rf.Mth × RMthV=>Cy x.1 x.2) 12 (fun _=>rfl) l k hk j hj,?_⟩;unfold Eb;rw[Cx (fun x:Rf.Mth × RMthV=>Cy x.1 x.2) 12 (fun _=>rfl) l];omega
def Cd.argB (T:List Int) (nf:Int) (ow:List Int) (lo:Int) (c:List Int) (op n:Int):Bool :=
 if op=2∨op=3 then decide (n<lo)
 else if 11≤op∧op≤14 then Cd.begB c n
 else if op=15∨op=16∨op=19 then Tr.hasB T n
 else if op=17∨op=18 then decide (n<nf)
 else if op=20 then decide (n<(ow.length:Int))&&(ow.getD n.toNat 0==255)
 else if op=21 then decide (n<(ow.length:Int))&&(ow.getD n.toNat 0 != 255)
 else true
structure RFl where
 a1:Option Addr
 c1:Nat
 a2:Option Addr
 c2:Nat
 bb:Nat
 l:List (Rd.Cls × Value)
 ms:List (Rf.Mth × RMthV)
def RFl.val (f:RFl):Value:=.agg #[.slice f.a1 f.l.length f.c1,.slice f.a2 f.ms.length f.c2]
def RFl.ok (f:RFl) (w:World):Prop:=f.l.length≤13∧7≤f.l.length∧f.ms.length≤6∧(∀ p∈f.l,p.1.fields.length≤1000)∧RClssIn w f.bb (.slice f.a1 f.l.length f.c1) f.l∧RMthsIn w f.bb (.slice f.a2 f.ms.length f.c2) f.ms
theorem RFl.ok.below {f:RFl}{w w':World} (h:f.ok w) (hb:Below w.heap.size w w'):f.ok w' :=
 ⟨h.1,h.2.1,h.2.2.1,h.2.2.2.1,h.2.2.2.2.1.kp (Kp.of_below (e:=none) hb) (by decide) (by decide),h.2.2.2.2.2.kp (Kp.of_below (e:=none) hb) (by decide) (by decide) (by decide) (by decide)⟩
def RFl.T (f:RFl):List Int:=Al f.l
def RFl.fields (f:RFl):List Rf.Fld:=Rf.fieldsTo (Al f.l) (f.l.map Prod.fst) (f.l.length-7)
def RFl.owners (f:RFl):List Int:=f.ms.map fun x=>x.1.m.cl
theorem W9 (f:RFl) (m:RMV) (p:Nat) (w:World) (hf:f.ok w) (hp:p<m.code.size) (hs:m.code.size≤100000) (hr:p+Cd.wd ((An m.code).getD p 0)≤m.code.size) :
  Calls Tryz.prog 56 #[f.val,m.val,.int .i64 (p:Int)] w fun e w' =>
   e=.returned (.bool (Cd.argB f.T (f.fields.length:Int) f.owners m.lo (An m.code) ((An m.code).getD p 0) (Rf.at' m.code.data.toList ((p:Int)+1))))∧Below w.heap.size w w':=by
 have hN:2≤Cd.wd ((An m.code).getD p 0)→0≤Rf.at' m.code.data.toList ((p:Int)+1):=by
  intro h;have:Rf.at' m.code.data.toList ((p+1:Nat):Int)=_:=Fl (s:=m.code) (i:=p+1) (by omega);rw[show ((p:Int)+1)=((p+1:Nat):Int) by omega,this];omega
 rw[Dx _ _ hp]at hN hr ⊢;have hAr:=fun w=>Er m p w hp hs;have hBe:=fun x w=>Ex m x w hs;have hHa:=fun x w=>Dd f.T f.a1 f.a2 f.c1 f.ms.length f.c2 x w;have hFi:=fun w (h:f.ok w)=>Gw f.a1 f.a2 f.c1 f.ms.length f.c2 f.bb f.l w h.1 h.2.1 h.2.2.2.1 h.2.2.2.2.1;have hTl:f.T.length=f.l.length:=Bt _;rw[hTl]at hHa;have hF0:=hf;obtain⟨fa1,fc1,fa2,fc2,bb,l,ms⟩:=f;obtain⟨cl,nm,pa,pl,pc,r1,r2,lo,st,code,ha,hl,hc,ma,ml,mc,mAt,fin⟩:=m;simp only[RMV.val,RFl.val]at hp hs hN hr hAr hBe hHa hFi ⊢;have hfe:(RFl.mk fa1 fc1 fa2 fc2 bb l ms).fields=Rf.fieldsTo (Al l) (l.map Prod.fst) (l.length-7):=rfl;rw[← hfe]at hFi;generalize (RFl.mk fa1 fc1 fa2 fc2 bb l ms).fields=flds at *;generalize (RFl.mk fa1 fc1 fa2 fc2 bb l ms).T=T at *;generalize hnn:Rf.at' code.data.toList ((p:Int)+1)=n at *;have hol:(RFl.mk fa1 fc1 fa2 fc2 bb l ms).owners.length=ms.length:=by simp[RFl.owners]
 generalize how:(RFl.mk fa1 fc1 fa2 fc2 bb l ms).owners=ow at *;generalize hres:Cd.argB T (flds.length:Int) ow lo (An code) (code[p].toNat:Int) n=R;have hp':(p:Int)<(code.size:Int):=by omega
 have hwb:∀ c:UInt8,IntKind.i64.wrap (c.toNat:Int)=(c.toNat:Int):=fun c=>Bd _ (by omega) (by have:=c.toNat_lt;omega);have HAr:=Ac hAr;have HBe:=Ac hBe;have HHa:=Ac hHa;have HFi:=Ac hFi;have HF0:=Ac hF0;have HNN:Hid (2≤Cd.wd (code[p].toNat:Int)→0≤n):=hN;have HOW:=Ac how;have HOL:=Ac hol;clear hnn hfe hAr hBe hHa hFi hF0 hf hN hr how hol hTl;by_cases hop:(code[p].toNat:Int)=2
 ·have HR:Hid (R=decide (n<lo)):=by unfold Hid;rw[← hres];unfold Cd.argB;rw[hop];simp
  clear hres;go_enter Tryz.func56,Tryz.ntmps56;go_wp2_with fail
  refine(Aa HAr _).mono ?_;rintro e w1 ⟨rfl,hb1⟩;have hB1:=(Ak w _ _).trans (hb1.mono (by simp;omega));have CF:=stay hb1 (Ah w _ _);have CM:=stay hb1 (Ag w _ _);obtain⟨m0,m1,m2,m3,m4,m5,m6,m7,m8,m9,m10,m11⟩:=Ap CM;obtain⟨f0,f1⟩:=cl2 CF;simp at f0 f1 m0 m1 m2 m3 m4 m5 m6 m7 m8 m9 m10 m11;have lF:=lt_of_block CF;have lM:=lt_of_block CM;clear hb1;go_wp2;go_ret;exact⟨by rw[Aa HR];rfl,hB1⟩
 have n2:((code[p].toNat:Int)==2)=false:=by simp;omega
 have i2:=hop;clear hop;by_cases hop:(code[p].toNat:Int)=3
 ·have HR:Hid (R=decide (n<lo)):=by unfold Hid;rw[← hres];unfold Cd.argB;rw[hop];simp
  clear hres;go_enter Tryz.func56,Tryz.ntmps56;go_wp2_with fail
  refine(Aa HAr _).mono ?_;rintro e w1 ⟨rfl,hb1⟩;have hB1:=(Ak w _ _).trans (hb1.mono (by simp;omega));have CF:=stay hb1 (Ah w _ _);have CM:=stay hb1 (Ag w _ _);obtain⟨m0,m1,m2,m3,m4,m5,m6,m7,m8,m9,m10,m11⟩:=Ap CM;obtain⟨f0,f1⟩:=cl2 CF;simp at f0 f1 m0 m1 m2 m3 m4 m5 m6 m7 m8 m9 m10 m11;have lF:=lt_of_block CF;have lM:=lt_of_block CM;clear hb1;go_wp2;go_ret;exact⟨by rw[Aa HR];rfl,hB1⟩
 have n3:((code[p].toNat:Int)==3)=false:=by simp;omega
 have i3:=hop;clear hop;by_cases hop:(code[p].toNat:Int)=11
 ·have HR:Hid (R=Cd.begB (An code) n):=by unfold Hid;rw[← hres];unfold Cd.argB;rw[hop];simp
  clear hres;go_enter Tryz.func56,Tryz.ntmps56;go_wp2_with fail
  refine(Aa HAr _).mono ?_;rintro e w1 ⟨rfl,hb1⟩;have hB1:=(Ak w _ _).trans (hb1.mono (by simp;omega));have CF:=stay hb1 (Ah w _ _);have CM:=stay hb1 (Ag w _ _);obtain⟨m0,m1,m2,m3,m4,m5,m6,m7,m8,m9,m10,m11⟩:=Ap CM;obtain⟨f0,f1⟩:=cl2 CF;simp at f0 f1 m0 m1 m2 m3 m4 m5 m6 m7 m8 m9 m10 m11;have lF:=lt_of_block CF;have lM:=lt_of_block CM;clear hb1;go_wp2_with fail
  refine(Aa HBe n _).mono ?_;rintro e w2 ⟨rfl,hb2⟩;go_wp2;go_ret;exact⟨by rw[Aa HR];rfl,QB hB1 hb2⟩
 have n11:((code[p].toNat:Int)==11)=false:=by simp;omega
 have i11:=hop;clear hop;by_cases hop:(code[p].toNat:Int)=12
 ·have HR:Hid (R=Cd.begB (An code) n):=by unfold Hid;rw[← hres];unfold Cd.argB;rw[hop];simp
  clear hres;go_enter Tryz.func56,Tryz.ntmps56;go_wp2_with fail
  refine(Aa HAr _).mono ?_;rintro e w1 ⟨rfl,hb1⟩;have hB1:=(Ak w _ _).trans (hb1.mono (by simp;omega));have CF:=stay hb1 (Ah w _ _);have CM:=stay hb1 (Ag w _ _);obtain⟨m0,m1,m2,m3,m4,m5,m6,m7,m8,m9,m10,m11⟩:=Ap CM;obtain⟨f0,f1⟩:=cl2 CF;simp at f0 f1 m0 m1 m2 m3 m4 m5 m6 m7 m8 m9 m10 m11;have lF:=lt_of_block CF;have lM:=lt_of_block CM;clear hb1;go_wp2_with fail
  refine(Aa HBe n _).mono ?_;rintro e w2 ⟨rfl,hb2⟩;go_wp2;go_ret;exact⟨by rw[Aa HR];rfl,QB hB1 hb2⟩
 have n12:((code[p].toNat:Int)==12)=false:=by simp;omega
 have i12:=hop;clear hop;by_cases hop:(code[p].toNat:Int)=13
 ·have HR:Hid (R=Cd.begB (An code) n):=by unfold Hid;rw[← hres];unfold Cd.argB;rw[hop];simp
  clear hres;go_enter Tryz.func56,Tryz.ntmps56;go_wp2_with fail
  refine(Aa HAr _).mono ?_;rintro e w1 ⟨rfl,hb1⟩;have hB1:=(Ak w _ _).trans (hb1.mono (by simp;omega));have CF:=stay hb1 (Ah w _ _);have CM:=stay hb1 (Ag w _ _);obtain⟨m0,m1,m2,m3,m4,m5,m6,m7,m8,m9,m10,m11⟩:=Ap CM;obtain⟨f0,f1⟩:=cl2 CF;simp at f0 f1 m0 m1 m2 m3 m4 m5 m6 m7 m8 m9 m10 m11;have lF:=lt_of_block CF;have lM:=lt_of_block CM;clear hb1;go_wp2_with fail
  refine(Aa HBe n _).mono ?_;rintro e w2 ⟨rfl,hb2⟩;go_wp2;go_ret;exact⟨by rw[Aa HR];rfl,QB hB1 hb2⟩
 have n13:((code[p].toNat:Int)==13)=false:=by simp;omega
 have i13:=hop;clear hop;by_cases hop:(code[p].toNat:Int)=14
 ·have HR:Hid (R=Cd.begB (An code) n):=by unfold Hid;rw[← hres];unfold Cd.argB;rw[hop];simp
  clear hres;go_enter Tryz.func56,Tryz.ntmps56;go_wp2_with fail
  refine(Aa HAr _).mono ?_;rintro e w1 ⟨rfl,hb1⟩;have hB1:=(Ak w _ _).trans (hb1.mono (by simp;omega));have CF:=stay hb1 (Ah w _ _);have CM:=stay hb1 (Ag w _ _);obtain⟨m0,m1,m2,m3,m4,m5,m6,m7,m8,m9,m10,m11⟩:=Ap CM;obtain⟨f0,f1⟩:=cl2 CF;simp at f0 f1 m0 m1 m2 m3 m4 m5 m6 m7 m8 m9 m10 m11;have lF:=lt_of_block CF;have lM:=lt_of_block CM;clear hb1;go_wp2_with fail
  refine(Aa HBe n _).mono ?_;rintro e w2 ⟨rfl,hb2⟩;go_wp2;go_ret;exact⟨by rw[Aa HR];rfl,QB hB1 hb2⟩
 have n14:((code[p].toNat:Int)==14)=false:=by simp;omega
 have i14:=hop;clear hop;by_cases hop:(code[p].toNat:Int)=15
 ·have HR:Hid (R=Tr.hasB T n):=by unfold Hid;rw[← hres];unfold Cd.argB;rw[hop];simp
  clear hres;go_enter Tryz.func56,Tryz.ntmps56;go_wp2_with fail
  refine(Aa HAr _).mono ?_;rintro e w1 ⟨rfl,hb1⟩;have hB1:=(Ak w _ _).trans (hb1.mono (by simp;omega));have CF:=stay hb1 (Ah w _ _);have CM:=stay hb1 (Ag w _ _);obtain⟨m0,m1,m2,m3,m4,m5,m6,m7,m8,m9,m10,m11⟩:=Ap CM;obtain⟨f0,f1⟩:=cl2 CF;simp at f0 f1 m0 m1 m2 m3 m4 m5 m6 m7 m8 m9 m10 m11;have lF:=lt_of_block CF;have lM:=lt_of_block CM;clear hb1;go_wp2_with fail
  refine(Aa HHa n _).mono ?_;rintro e w2 ⟨rfl,hb2⟩;go_wp2;go_ret;exact⟨by rw[Aa HR];rfl,QB hB1 hb2⟩
 have n15:((code[p].toNat:Int)==15)=false:=by simp;omega
 have i15:=hop;clear hop;by_cases hop:(code[p].toNat:Int)=16
 ·have HR:Hid (R=Tr.hasB T n):=by unfold Hid;rw[← hres];unfold Cd.argB;rw[hop];simp
  clear hres;go_enter Tryz.func56,Tryz.ntmps56;go_wp2_with fail
  refine(Aa HAr _).mono ?_;rintro e w1 ⟨rfl,hb1⟩;have hB1:=(Ak w _ _).trans (hb1.mono (by simp;omega));have CF:=stay hb1 (Ah w _ _);have CM:=stay hb1 (Ag w _ _);obtain⟨m0,m1,m2,m3,m4,m5,m6,m7,m8,m9,m10,m11⟩:=Ap CM;obtain⟨f0,f1⟩:=cl2 CF;simp at f0 f1 m0 m1 m2 m3 m4 m5 m6 m7 m8 m9 m10 m11;have lF:=lt_of_block CF;have lM:=lt_of_block CM;clear hb1;go_wp2_with fail
  refine(Aa HHa n _).mono ?_;rintro e w2 ⟨rfl,hb2⟩;go_wp2;go_ret;exact⟨by rw[Aa HR];rfl,QB hB1 hb2⟩
 have n16:((code[p].toNat:Int)==16)=false:=by simp;omega
 have i16:=hop;clear hop;by_cases hop:(code[p].toNat:Int)=19
 ·have HR:Hid (R=Tr.hasB T n):=by unfold Hid;rw[← hres];unfold Cd.argB;rw[hop];simp
  clear hres;go_enter Tryz.func56,Tryz.ntmps56;go_wp2_with fail
  refine(Aa HAr _).mono ?_;rintro e w1 ⟨rfl,hb1⟩;have hB1:=(Ak w _ _).trans (hb1.mono (by simp;omega));have CF:=stay hb1 (Ah w _ _);have CM:=stay hb1 (Ag w _ _);obtain⟨m0,m1,m2,m3,m4,m5,m6,m7,m8,m9,m10,m11⟩:=Ap CM;obtain⟨f0,f1⟩:=cl2 CF;simp at f0 f1 m0 m1 m2 m3 m4 m5 m6 m7 m8 m9 m10 m11;have lF:=lt_of_block CF;have lM:=lt_of_block CM;clear hb1;go_wp2_with fail
  refine(Aa HHa n _).mono ?_;rintro e w2 ⟨rfl,hb2⟩;go_wp2;go_ret;exact⟨by rw[Aa HR];rfl,QB hB1 hb2⟩
 have n19:((code[p].toNat:Int)==19)=false:=by simp;omega
 have i19:=hop;clear hop;by_cases hop:(code[p].toNat:Int)=17
 ·have HR:Hid (R=decide (n<(flds.length:Int))):=by unfold Hid;rw[← hres];unfold Cd.argB;rw[hop];simp
  clear hres;go_enter Tryz.func56,Tryz.ntmps56;go_wp2_with fail
  refine(Aa HAr _).mono ?_;rintro e w1 ⟨rfl,hb1⟩;have hB1:=(Ak w _ _).trans (hb1.mono (by simp;omega));have CF:=stay hb1 (Ah w _ _);have CM:=stay hb1 (Ag w _ _);obtain⟨m0,m1,m2,m3,m4,m5,m6,m7,m8,m9,m10,m11⟩:=Ap CM;obtain⟨f0,f1⟩:=cl2 CF;simp at f0 f1 m0 m1 m2 m3 m4 m5 m6 m7 m8 m9 m10 m11;have lF:=lt_of_block CF;have lM:=lt_of_block CM;clear hb1;go_wp2_with fail
  refine(Aa HFi _ ((Aa HF0).below hB1)).mono ?_;rintro e w2 ⟨va,vc,rfl,_,hb2⟩;go_wp2;go_ret;exact⟨by rw[Aa HR];rfl,QB hB1 hb2⟩
 have n17:((code[p].toNat:Int)==17)=false:=by simp;omega
 have i17:=hop;clear hop;by_cases hop:(code[p].toNat:Int)=18
 ·have HR:Hid (R=decide (n<(flds.length:Int))):=by unfold Hid;rw[← hres];unfold Cd.argB;rw[hop];simp
  clear hres;go_enter Tryz.func56,Tryz.ntmps56;go_wp2_with fail
  refine(Aa HAr _).mono ?_;rintro e w1 ⟨rfl,hb1⟩;have hB1:=(Ak w _ _).trans (hb1.mono (by simp;omega));have CF:=stay hb1 (Ah w _ _);have CM:=stay hb1 (Ag w _ _);obtain⟨m0,m1,m2,m3,m4,m5,m6,m7,m8,m9,m10,m11⟩:=Ap CM;obtain⟨f0,f1⟩:=cl2 CF;simp at f0 f1 m0 m1 m2 m3 m4 m5 m6 m7 m8 m9 m10 m11;have lF:=lt_of_block CF;have lM:=lt_of_block CM;clear hb1;go_wp2_with fail
  refine(Aa HFi _ ((Aa HF0).below hB1)).mono ?_;rintro e w2 ⟨va,vc,rfl,_,hb2⟩;go_wp2;go_ret;exact⟨by rw[Aa HR];rfl,QB hB1 hb2⟩
 have n18:((code[p].toNat:Int)==18)=false:=by simp;omega
 have i18:=hop;clear hop;by_cases hop:(code[p].toNat:Int)=20
 ·have hn0:0≤n:=(Aa HNN) (by rw[hop];decide);by_cases hn:n<(ms.length:Int)
  ·obtain⟨q,hq⟩:=Int.eq_ofNat_of_zero_le hn0;subst hq;have hqm:q<ms.length:=by omega
   obtain⟨e1,e2⟩:=Ln ms q hqm 0 (by omega);obtain⟨gm,hgm,hgmlt,_,hcm⟩:=Ao (Aa HF0).2.2.2.2.2.1 (by simp only;omega);simp only at hgm hcm;have y0:=(hcm _ e2).trans e1;simp[Cy]at y0;have how:ow.getD q 0=ms[q].1.m.cl:=by rw[← Aa HOW];simp[RFl.owners,List.getD_eq_getElem?_getD,hqm]
   have HR:Hid (R=(ms[q].1.m.cl==255)):=by unfold Hid;rw[← hres];unfold Cd.argB;rw[hop];simp[hn,Aa HOL,-List.getD_eq_getElem?_getD];rw[how]
   generalize ms[q].1.m.cl=ocl at *;have lq:gm<w.heap.size:=hgmlt;clear hres how e1 e2 hcm;subst hgm;go_enter Tryz.func56,Tryz.ntmps56;go_wp2_with fail
   refine(Aa HAr _).mono ?_;rintro e w1 ⟨rfl,hb1⟩;have hB1:=(Ak w _ _).trans (hb1.mono (by simp;omega));have CF:=stay hb1 (Ah w _ _);have CM:=stay hb1 (Ag w _ _);obtain⟨m0,m1,m2,m3,m4,m5,m6,m7,m8,m9,m10,m11⟩:=Ap CM;obtain⟨f0,f1⟩:=cl2 CF;simp at f0 f1 m0 m1 m2 m3 m4 m5 m6 m7 m8 m9 m10 m11;have lF:=lt_of_block CF;have lM:=lt_of_block CM;clear hb1;have y1:w1.cell? ⟨gm,q*12,none⟩=some (.int .i64 ocl):=QC hB1 lq y0;clear y0;go_wp2;go_ret;exact⟨by rw[Aa HR];rfl,hB1⟩
  ·have HR:Hid (R=false):=by unfold Hid;rw[← hres];unfold Cd.argB;rw[hop];simp[hn,Aa HOL]
   clear hres;go_enter Tryz.func56,Tryz.ntmps56;go_wp2_with fail
   refine(Aa HAr _).mono ?_;rintro e w1 ⟨rfl,hb1⟩;have hB1:=(Ak w _ _).trans (hb1.mono (by simp;omega));have CF:=stay hb1 (Ah w _ _);have CM:=stay hb1 (Ag w _ _);obtain⟨m0,m1,m2,m3,m4,m5,m6,m7,m8,m9,m10,m11⟩:=Ap CM;obtain⟨f0,f1⟩:=cl2 CF;simp at f0 f1 m0 m1 m2 m3 m4 m5 m6 m7 m8 m9 m10 m11;have lF:=lt_of_block CF;have lM:=lt_of_block CM;clear hb1;go_wp2;go_ret;exact⟨by rw[Aa HR];rfl,hB1⟩
 have n20:((code[p].toNat:Int)==20)=false:=by simp;omega
 have i20:=hop;clear hop;by_cases hop:(code[p].toNat:Int)=21
 ·have hn0:0≤n:=(Aa HNN) (by rw[hop];decide);by_cases hn:n<(ms.length:Int)
  ·obtain⟨q,hq⟩:=Int.eq_ofNat_of_zero_le hn0;subst hq;have hqm:q<ms.length:=by omega
   obtain⟨e1,e2⟩:=Ln ms q hqm 0 (by omega);obtain⟨gm,hgm,hgmlt,_,hcm⟩:=Ao (Aa HF0).2.2.2.2.2.1 (by simp only;omega);simp only at hgm hcm;have y0:=(hcm _ e2).trans e1;simp[Cy]at y0;have how:ow.getD q 0=ms[q].1.m.cl:=by rw[← Aa HOW];simp[RFl.owners,List.getD_eq_getElem?_getD,hqm]
   have HR:Hid (R=(ms[q].1.m.cl != 255)):=by unfold Hid;rw[← hres];unfold Cd.argB;rw[hop];simp[hn,Aa HOL,-List.getD_eq_getElem?_getD];rw[how]
   generalize ms[q].1.m.cl=ocl at *;have lq:gm<w.heap.size:=hgmlt;clear hres how e1 e2 hcm;subst hgm;go_enter Tryz.func56,Tryz.ntmps56;go_wp2_with fail
   refine(Aa HAr _).mono ?_;rintro e w1 ⟨rfl,hb1⟩;have hB1:=(Ak w _ _).trans (hb1.mono (by simp;omega));have CF:=stay hb1 (Ah w _ _);have CM:=stay hb1 (Ag w _ _);obtain⟨m0,m1,m2,m3,m4,m5,m6,m7,m8,m9,m10,m11⟩:=Ap CM;obtain⟨f0,f1⟩:=cl2 CF;simp at f0 f1 m0 m1 m2 m3 m4 m5 m6 m7 m8 m9 m10 m11;have lF:=lt_of_block CF;have lM:=lt_of_block CM;clear hb1;have y1:w1.cell? ⟨gm,q*12,none⟩=some (.int .i64 ocl):=QC hB1 lq y0;clear y0;go_wp2;go_ret;exact⟨by rw[Aa HR];rfl,hB1⟩
  ·have HR:Hid (R=false):=by unfold Hid;rw[← hres];unfold Cd.argB;rw[hop];simp[hn,Aa HOL]
   clear hres;go_enter Tryz.func56,Tryz.ntmps56;go_wp2_with fail
   refine(Aa HAr _).mono ?_;rintro e w1 ⟨rfl,hb1⟩;have hB1:=(Ak w _ _).trans (hb1.mono (by simp;omega));have CF:=stay hb1 (Ah w _ _);have CM:=stay hb1 (Ag w _ _);obtain⟨m0,m1,m2,m3,m4,m5,m6,m7,m8,m9,m10,m11⟩:=Ap CM;obtain⟨f0,f1⟩:=cl2 CF;simp at f0 f1 m0 m1 m2 m3 m4 m5 m6 m7 m8 m9 m10 m11;have lF:=lt_of_block CF;have lM:=lt_of_block CM;clear hb1;go_wp2;go_ret;exact⟨by rw[Aa HR];rfl,hB1⟩
 have n21:((code[p].toNat:Int)==21)=false:=by simp;omega
 have i21:=hop;clear hop;have HR:Hid (R=true):=by
  unfold Hid;rw[← hres];unfold Cd.argB;rw[if_neg (by omega),if_neg (by omega),if_neg (by omega),if_neg (by omega),if_neg (by omega),if_neg (by omega)]
 clear hres i2 i3 i11 i12 i13 i14 i15 i16 i19 i17 i18 i20 i21;go_enter Tryz.func56,Tryz.ntmps56;go_wp2_with fail
 refine(Aa HAr _).mono ?_;rintro e w1 ⟨rfl,hb1⟩;have hB1:=(Ak w _ _).trans (hb1.mono (by simp;omega));have CF:=stay hb1 (Ah w _ _);have CM:=stay hb1 (Ag w _ _);obtain⟨m0,m1,m2,m3,m4,m5,m6,m7,m8,m9,m10,m11⟩:=Ap CM;obtain⟨f0,f1⟩:=cl2 CF;simp at f0 f1 m0 m1 m2 m3 m4 m5 m6 m7 m8 m9 m10 m11;have lF:=lt_of_block CF;have lM:=lt_of_block CM;clear hb1;go_wp2;go_ret;exact⟨by rw[Aa HR];rfl,hB1⟩
def Cd.nAt (c:List Int) (p:Nat):Int:=if p+1<c.length then c.getD (p+1) 0 else -1
theorem Y2 (s:ByteArray) (p:Nat):Rf.at' s.data.toList ((p:Int)+1)=Cd.nAt (An s) p:=by
 unfold Cd.nAt;rw[Cq];by_cases h:p+1<s.size
 ·rw[if_pos h,Dx _ _ h];have:Rf.at' s.data.toList ((p+1:Nat):Int)=_:=Fl (s:=s) (i:=p+1) h;rw[show ((p:Int)+1)=((p+1:Nat):Int) by omega,this]
 ·rw[if_neg h];exact Rf.at_out (by simp;omega)
def Cd.argAt (T:List Int) (nf:Int) (ow:List Int) (lo:Int) (c:List Int) (p:Nat):Bool:=Cd.argB T nf ow lo c (c.getD p 0) (Cd.nAt c p)
def Cd.badArg (T:List Int) (nf:Int) (ow:List Int) (lo:Int) (c:List Int) (p:Nat):Bool:=!Cd.argAt T nf ow lo c p
def Cd.badCode (T:List Int) (nf:Int) (ow:List Int) (lo:Int) (c:List Int):Int :=
 if 0≤Cd.unread c then Cd.unread c else Cd.first (Cd.badArg T nf ow lo c) (Cd.places c)
theorem Mi {f:Nat→Bool}{p:Nat}{r:List Nat} (h:Cd.first f (p::r)<0):f p=false∧Cd.first f r<0:=by
 rw[Cd.first]at h
 by_cases hp:f p=true
 ·rw[if_pos hp]at h;omega
 ·rw[if_neg hp]at h;exact⟨by simpa using hp,h⟩
theorem Nh (f:RFl) (m:RMV) (w:World) (hf:f.ok w) (hs:m.code.size≤100000) :
  Calls Tryz.prog 31 #[f.val,m.val] w fun e w' =>
   e=.returned (.int .i64 (Cd.badCode f.T (f.fields.length:Int) f.owners m.lo (An m.code)))∧Below w.heap.size w w':=by
 unfold Cd.badCode;have hU:=fun w=>Pb m w hs;have hN:=fun p w hp=>Fg m p w hp hs;have hA:=fun p w (h:f.ok w) hp hr=>W9 f m p w h hp hs hr;have hl:=Cq m.code;generalize f.T=T at *;generalize (f.fields.length:Int)=nf at *;generalize f.owners=ow at *;have hA':∀ p w,f.ok w→p<m.code.size→Cd.noRead (An m.code) p=false→Calls Tryz.prog 56 #[f.val,m.val,.int .i64 (p:Int)] w fun e w'=>e=.returned (.bool (Cd.argAt T nf ow m.lo (An m.code) p))∧Below w.heap.size w w':=by
  intro p w h1 h2 h3;unfold Cd.argAt;rw[← Y2];refine hA p w h1 h2 ?_;simp only[Cd.noRead,Bool.or_eq_false_iff,decide_eq_false_iff_not]at h3;omega
 clear hA;have hB0:=Ak w (O11 f.a1 f.l.length f.c1 f.a2 f.ms.length f.c2) m.obj;have CF0:=Ah w (O11 f.a1 f.l.length f.c1 f.a2 f.ms.length f.c2) m.obj;have CM0:=Ag w (O11 f.a1 f.l.length f.c1 f.a2 f.ms.length f.c2) m.obj;have HF0:=Ac hf;have hun:Cd.unread (An m.code)=Cd.first (Cd.noRead (An m.code)) (Cd.starts (An m.code) (An m.code).length 0):=rfl
 unfold Cd.places;generalize hu:Cd.unread (An m.code)=u at *;have HFO:∀ w',Below w.heap.size w w'→f.ok w':=fun w' hb=>hf.below hb;clear hf;obtain⟨fa1,fc1,fa2,fc2,bb,l,ms⟩:=f;obtain⟨cl,nm,pa,pl,pc,r1,r2,lo,st,code,ha,hl',hc,ma,ml,mc,mAt,fin⟩:=m;simp only[RMV.val,RMV.obj,RFl.val]at hs hU hN hA' hl hB0 CF0 CM0 hun ⊢;have HU:=Ac hU;have HN:=Ac hN;have HA:=Ac hA';have HOK:=Ac HFO;clear hU hN hA' HFO hu HF0;by_cases hu0:0≤u
 ·rw[if_pos hu0];clear hun;go_enter Tryz.func31,Tryz.ntmps31;go_wp2_with fail
  refine(Aa HU _).mono ?_;rintro e w1 ⟨rfl,hb1⟩;go_wp2;go_ret;exact⟨rfl,hB0.trans (hb1.mono (by simp;omega))⟩
 ·rw[if_neg hu0];generalize hr:Cd.first (Cd.badArg T nf ow lo (An code)) (Cd.starts (An code) (An code).length 0)=r
  have HR:=Ac hr;have HUN:Hid (Cd.first (Cd.noRead (An code)) (Cd.starts (An code) (An code).length 0)<0):=by unfold Hid;rw[← hun];omega
  clear hr hun;go_enter Tryz.func31,Tryz.ntmps31;go_wp2_with fail
  refine(Aa HU _).mono ?_;rintro e w1 ⟨rfl,hb1⟩;have hB1:=hB0.trans (hb1.mono (by simp;omega));have CF1:=stay hb1 CF0;have CM1:=stay hb1 CM0;clear hb1 hB0 CF0 CM0 HU;go_wp2
  go_loopw [6] (fun v wr=>∃ p k:Nat,v=.int .i64 (p:Int)∧(An code).length≤p+k∧p≤200000∧Hid (Cd.first (Cd.badArg T nf ow lo (An code)) (Cd.starts (An code) k p)=r)∧Hid (Cd.first (Cd.noRead (An code)) (Cd.starts (An code) k p)<0)∧Below w.heap.size w wr ∧
    wr.heap[w.heap.size]?=some (O11 fa1 l.length fc1 fa2 ms.length fc2) ∧
    wr.heap[w.heap.size+1]?=some (O14 cl nm pa pl pc r1 r2 lo st code ha hl' hc ma ml mc mAt fin))
   (fun v _=>code.size-(intOf v).toNat)
  case atStart=>exact⟨0,_,rfl,by omega,by omega,HR,HUN,hB1,CF1,CM1⟩
  case round =>
   clear hB1 CF1 CM1 HR HUN;obtain⟨p,k,rfl,hk,hp2,HR,HUN,hB,CF,CM⟩:=hrel;obtain⟨m0,m1,m2,m3,m4,m5,m6,m7,m8,m9,m10,m11⟩:=Ap CM;simp at m0 m1 m2 m3 m4 m5 m6 m7 m8 m9 m10 m11;obtain⟨f0,f1⟩:=cl2 CF;simp at f0 f1;have hBs:=hB.size;by_cases hpn:p<code.size
   ·obtain⟨j,rfl,hj,hst⟩:=Cd.starts_go (c:=An code) (k:=k) (p:=p) (by omega) hk;have hr:=Aa HR;have hun:=Aa HUN;rw[hst]at hr hun;obtain⟨hn1,hn2⟩:=Mi hun;rw[Cd.first]at hr
    have hp':(p:Int)<(code.size:Int):=by omega
    have hwd:=Cd.wd_bd ((An code).getD p 0);have hn:=fun w=>Aa HN p w hpn;have ha':=Aa HA p wr (Aa HOK _ hB) hpn hn1;have hba:Cd.badArg T nf ow lo (An code) p = !Cd.argAt T nf ow lo (An code) p:=rfl;rw[hba]at hr;generalize Cd.wd ((An code).getD p 0)=d at *;generalize Cd.argAt T nf ow lo (An code) p=A at *;have HNN:=Ac hn;have HAA:=Ac ha';have HUN2:=Ac hn2;clear hn ha' hst HR HUN hun hn1 hn2 hba;cases A with
    | false =>
     have HF:Hid ((p:Int)=r):=by unfold Hid;rw[← hr];simp
     clear hr;go_wp2_with fail
     refine(Aa HAA).mono ?_;rintro e w2 ⟨rfl,hb2⟩;have hB2:=hB.trans (hb2.mono hBs);go_wp2;go_ret;exact⟨by rw[← Aa HF];rfl,hB2⟩
    | true =>
     have HF:Hid (Cd.first (Cd.badArg T nf ow lo (An code)) (Cd.starts (An code) j (p+d))=r):=by unfold Hid;rw[← hr];simp
     clear hr;go_wp2_with fail
     refine(Aa HAA).mono ?_;rintro e w2 ⟨rfl,hb2⟩;have hB2:=hB.trans (hb2.mono hBs);have CF2:=stay hb2 CF;have CM2:=stay hb2 CM;obtain⟨k0,k1,k2,k3,k4,k5,k6,k7,k8,k9,k10,k11⟩:=Ap CM2;simp at k0 k1 k2 k3 k4 k5 k6 k7 k8 k9 k10 k11;have hs2:=hB2.size;clear hb2 hB CF CM f0 f1 m0 m1 m2 m3 m4 m5 m6 m7 m8 m9 m10 m11;go_wp2_with fail
     refine(Aa HNN _).mono ?_;rintro e w3 ⟨rfl,hb3⟩;have hB3:=hB2.trans (hb3.mono hs2);have CF3:=stay hb3 CF2;have CM3:=stay hb3 CM2;clear hb3 hB2 CF2 CM2 k0 k1 k2 k3 k4 k5 k6 k7 k8 k9 k10 k11;go_wp2
     go_roundw
     case rel=>exact⟨p+d,j,rfl,hj,by omega,HF,HUN2,hB3,CF3,CM3⟩
     case measure=>simp[intOf];omega
   ·have hr:=Aa HR;rw[Cd.starts_end (by omega)]at hr;have HF:=Ac hr;have hp':¬ (p:Int)<(code.size:Int):=by omega
    clear hr HR HUN;go_wp2;go_ret;exact⟨by rw[← Aa HF];rfl,hB⟩
def Cd.hndBad (T:List Int) (c:List Int) (x:Rd.Hnd):Bool :=
 decide (x.til≤x.frm) || !Cd.begB c x.frm || !Cd.begB c x.target || (!Cd.begB c x.til&&(x.til != (c.length:Int))) || !Tr.hasB T x.cl || !Tr.rbel T x.cl 1
def Cd.firstIx {α:Type} (f:α→Bool):Nat→List α→Int
 | _,[]=>-1
 | k,x::r=>if f x=true then (k:Int) else Cd.firstIx f (k+1) r
theorem Ax (l:List Rd.Hnd) (k:Nat) (hk:k<l.length) (j:Nat) (hj:j<4):(Bb l)[k*4+j]?=[Value.int .i64 l[k].frm,.int .i64 l[k].til,.int .i64 l[k].target,.int .i64 l[k].cl][j]?∧k*4+j<(Bb l).length:=by
 refine⟨Dq (fun x:Rd.Hnd=>[Value.int .i64 x.frm,.int .i64 x.til,.int .i64 x.target,.int .i64 x.cl]) 4 (fun _=>rfl) l k hk j hj,?_⟩;unfold Bb;rw[Cx (fun x:Rd.Hnd=>[Value.int .i64 x.frm,.int .i64 x.til,.int .i64 x.target,.int .i64 x.cl]) 4 (fun _=>rfl) l];omega
theorem Kz (f:RFl) (m:RMV) (hs:List Rd.Hnd) (w:World) (hf:f.ok w) (hsz:m.code.size≤100000) (hhl:m.hl=hs.length) (hh4:hs.length≤1000) (hh:RHndsAt w f.bb (.slice m.ha m.hl m.hc) hs) :
  Calls Tryz.prog 32 #[f.val,m.val] w fun e w' =>
   e=.returned (.int .i64 (Cd.firstIx (Cd.hndBad f.T (An m.code)) 0 hs))∧Below w.heap.size w w':=by
 have hBe:=fun x w=>Ex m x w hsz;have hHa:=fun x w=>Dd f.T f.a1 f.a2 f.c1 f.ms.length f.c2 x w;have hBl:=fun x y w (h:f.ok w)=>Dv f.a1 f.a2 f.c1 f.ms.length f.c2 f.bb f.l x y w (by have:=h.1;omega) h.2.2.2.2.1;have hTl:f.T.length=f.l.length:=Bt _;rw[hTl]at hHa;have hTs:Al f.l=f.T:=rfl;rw[hTs]at hBl;have hl:=Cq m.code;have hB0:=Ak w (O11 f.a1 f.l.length f.c1 f.a2 f.ms.length f.c2) m.obj;have CF0:=Ah w (O11 f.a1 f.l.length f.c1 f.a2 f.ms.length f.c2) m.obj;have CM0:=Ag w (O11 f.a1 f.l.length f.c1 f.a2 f.ms.length f.c2) m.obj;have HFO:∀ w',Below w.heap.size w w'→f.ok w':=fun w' hb=>hf.below hb;have HHN:∀ w',Below w.heap.size w w'→RHndsAt w' f.bb (.slice m.ha m.hl m.hc) hs:=fun w' hb=>hh.kp (Kp.of_below (e:=none) hb) (by decide);generalize f.T=T at *;generalize hr:Cd.firstIx (Cd.hndBad T (An m.code)) 0 hs=r;have HR:Hid (Cd.firstIx (Cd.hndBad T (An m.code)) 0 (hs.drop 0)=r):=hr;clear hr hf hh;obtain⟨fa1,fc1,fa2,fc2,bb,l,ms⟩:=f;obtain⟨cl,nm,pa,pl,pc,r1,r2,lo,st,code,ha,hl',hc,ma,ml,mc,mAt,fin⟩:=m;simp only at hhl;subst hhl;simp only[RMV.val,RMV.obj,RFl.val]at hsz hBe hHa hBl hl hB0 CF0 CM0 HHN HR ⊢;have HBe:=Ac hBe;have HHa:=Ac hHa;have HBl:=Ac hBl;have HOK:=Ac HFO;have HHN':=Ac HHN;clear hBe hHa hBl HFO HHN hTl hTs;go_enter Tryz.func32,Tryz.ntmps32;go_wp2
 go_loopw [5] (fun v wr=>∃ k:Nat,k≤hs.length∧v=.int .i64 (k:Int)∧Hid (Cd.firstIx (Cd.hndBad T (An code)) k (hs.drop k)=r)∧Below w.heap.size w wr ∧
   wr.heap[w.heap.size]?=some (O11 fa1 l.length fc1 fa2 ms.length fc2) ∧
   wr.heap[w.heap.size+1]?=some (O14 cl nm pa pl pc r1 r2 lo st code ha hs.length hc ma ml mc mAt fin))
  (fun v _=>hs.length-(intOf v).toNat)
 case atStart=>exact⟨0,by omega,rfl,HR,hB0,CF0,CM0⟩
 case round =>
  clear hB0 CF0 CM0 HR;obtain⟨k,hk,rfl,HR,hB,CF,CM⟩:=hrel;obtain⟨m0,m1,m2,m3,m4,m5,m6,m7,m8,m9,m10,m11⟩:=Ap CM;simp at m0 m1 m2 m3 m4 m5 m6 m7 m8 m9 m10 m11;obtain⟨f0,f1⟩:=cl2 CF;simp at f0 f1;have hBs:=hB.size;have lF:=lt_of_block CF;have lM:=lt_of_block CM;by_cases hkn:k<hs.length
  ·obtain⟨g,hg,hglt,_,hcell⟩:=Ao (Aa HHN' _ hB) (by omega);have y0:=(hcell _ (Ax hs k hkn 0 (by omega)).2).trans (Ax hs k hkn 0 (by omega)).1;have y1:=(hcell _ (Ax hs k hkn 1 (by omega)).2).trans (Ax hs k hkn 1 (by omega)).1;have y2:=(hcell _ (Ax hs k hkn 2 (by omega)).2).trans (Ax hs k hkn 2 (by omega)).1;have y3:=(hcell _ (Ax hs k hkn 3 (by omega)).2).trans (Ax hs k hkn 3 (by omega)).1;have hd:hs.drop k=hs[k]::hs.drop (k+1):=List.drop_eq_getElem_cons hkn;have hr:=Aa HR;rw[hd,Cd.firstIx]at hr;generalize hs[k]=x at *;obtain⟨frm,til,tgt,xcl⟩:=x;simp at y0 y1 y2 y3;have hbad:Cd.hndBad T (An code) ⟨frm,til,tgt,xcl⟩=(decide (til≤frm) || !Cd.begB (An code) frm || !Cd.begB (An code) tgt || (!Cd.begB (An code) til&&(til != (code.size:Int))) || !Tr.hasB T xcl || !Tr.rbel T xcl 1):=by
    unfold Cd.hndBad;rw[hl]
   rw[hbad]at hr;have hba:=fun w=>Aa HBe frm w;have hbb:=fun w=>Aa HBe til w;have hbc:=fun w=>Aa HBe tgt w;have hbk:=fun w=>Aa HHa xcl w;have hbd:=fun w h=>Aa HBl xcl 1 w h;generalize Cd.begB (An code) frm=A at *;generalize Cd.begB (An code) til=B at *;generalize Cd.begB (An code) tgt=C at *;generalize Tr.hasB T xcl=K at *;generalize Tr.rbel T xcl 1=D at *;have HA:=Ac hba;have HB:=Ac hbb;have HC:=Ac hbc;have HK:=Ac hbk;have HD:=Ac hbd;have HRR:=Ac hr;have hkb:(k:Int)<(hs.length:Int):=by omega
   clear hba hbb hbc hbk hbd hr hbad hd hcell HR HHN';subst hg;have CX:=Ad wr (O16 frm til tgt xcl);have hB0:=hB.alloc hBs (O16 frm til tgt xcl);have CF0:=Aj CF (O16 frm til tgt xcl);have CM0:=Aj CM (O16 frm til tgt xcl);have lx:wr.heap.size<(wr.alloc (O16 frm til tgt xcl)).heap.size:=by simp
   go_wp2_with fail
   refine(Aa HA _).mono ?_;rintro e w1 ⟨rfl,hb1⟩;have hB1:=QB hB0 hb1;have CF1:=stay hb1 CF0;have CM1:=stay hb1 CM0;have CX1:=stay hb1 CX;clear m0 m1 m2 m3 m4 m5 m6 m7 m8 m9 m10 m11 f0 f1 y0 y1 y2 y3 hb1 CF CM hB;obtain⟨m0,m1,m2,m3,m4,m5,m6,m7,m8,m9,m10,m11⟩:=Ap CM1;simp at m0 m1 m2 m3 m4 m5 m6 m7 m8 m9 m10 m11;obtain⟨f0,f1⟩:=cl2 CF1;obtain⟨y0,y1,y2,y3⟩:=cl4 CX1;simp at f0 f1 y0 y1 y2 y3;have lx1:=lt_of_block CX1;go_wp2_with fail
   refine(Aa HB _).mono ?_;rintro e w2 ⟨rfl,hb2⟩;have hB2:=QB hB1 hb2;have CF2:=stay hb2 CF1;have CM2:=stay hb2 CM1;have CX2:=stay hb2 CX1;clear m0 m1 m2 m3 m4 m5 m6 m7 m8 m9 m10 m11 f0 f1 y0 y1 y2 y3 hb2 CF1 CM1 CX1 hB1;obtain⟨m0,m1,m2,m3,m4,m5,m6,m7,m8,m9,m10,m11⟩:=Ap CM2;simp at m0 m1 m2 m3 m4 m5 m6 m7 m8 m9 m10 m11;obtain⟨f0,f1⟩:=cl2 CF2;obtain⟨y0,y1,y2,y3⟩:=cl4 CX2;simp at f0 f1 y0 y1 y2 y3;have lx2:=lt_of_block CX2;go_wp2_with fail
   refine(Aa HC _).mono ?_;rintro e w3 ⟨rfl,hb3⟩;have hB3:=QB hB2 hb3;have CF3:=stay hb3 CF2;have CM3:=stay hb3 CM2;have CX3:=stay hb3 CX2;clear m0 m1 m2 m3 m4 m5 m6 m7 m8 m9 m10 m11 f0 f1 y0 y1 y2 y3 hb3 CF2 CM2 CX2 hB2;obtain⟨m0,m1,m2,m3,m4,m5,m6,m7,m8,m9,m10,m11⟩:=Ap CM3;simp at m0 m1 m2 m3 m4 m5 m6 m7 m8 m9 m10 m11;obtain⟨f0,f1⟩:=cl2 CF3;obtain⟨y0,y1,y2,y3⟩:=cl4 CX3;simp at f0 f1 y0 y1 y2 y3;have lx3:=lt_of_block CX3;go_wp2_with fail
   refine(Aa HK _).mono ?_;rintro e w4 ⟨rfl,hb4⟩;have hB4:=QB hB3 hb4;have CF4:=stay hb4 CF3;have CM4:=stay hb4 CM3;have CX4:=stay hb4 CX3;clear m0 m1 m2 m3 m4 m5 m6 m7 m8 m9 m10 m11 f0 f1 y0 y1 y2 y3 hb4 CF3 CM3 CX3 hB3;obtain⟨m0,m1,m2,m3,m4,m5,m6,m7,m8,m9,m10,m11⟩:=Ap CM4;simp at m0 m1 m2 m3 m4 m5 m6 m7 m8 m9 m10 m11;obtain⟨f0,f1⟩:=cl2 CF4;obtain⟨y0,y1,y2,y3⟩:=cl4 CX4;simp at f0 f1 y0 y1 y2 y3;have lx4:=lt_of_block CX4;go_wp2_with fail
   refine(Aa HD _ (Aa HOK _ hB4)).mono ?_;rintro e w5 ⟨rfl,hb5⟩;have hB5:=QB hB4 hb5;have CF5:=stay hb5 CF4;have CM5:=stay hb5 CM4;have CX5:=stay hb5 CX4;clear m0 m1 m2 m3 m4 m5 m6 m7 m8 m9 m10 m11 f0 f1 y0 y1 y2 y3 hb5 CF4 CM4 CX4 hB4;obtain⟨m0,m1,m2,m3,m4,m5,m6,m7,m8,m9,m10,m11⟩:=Ap CM5;simp at m0 m1 m2 m3 m4 m5 m6 m7 m8 m9 m10 m11;obtain⟨f0,f1⟩:=cl2 CF5;obtain⟨y0,y1,y2,y3⟩:=cl4 CX5;simp at f0 f1 y0 y1 y2 y3;have lx5:=lt_of_block CX5;by_cases h1:til≤frm
   ·have HF:Hid ((k:Int)=r):=by unfold Hid;rw[← Aa HRR];simp[h1]
    clear HRR;go_wp2;go_ret;exact⟨by rw[← Aa HF];rfl,hB5⟩
   cases A with
   | false =>
    have HF:Hid ((k:Int)=r):=by unfold Hid;rw[← Aa HRR];simp
    clear HRR;go_wp2;go_ret;exact⟨by rw[← Aa HF];rfl,hB5⟩
   | true =>
    cases C with
    | false =>
     have HF:Hid ((k:Int)=r):=by unfold Hid;rw[← Aa HRR];simp
     clear HRR;go_wp2;go_ret;exact⟨by rw[← Aa HF];rfl,hB5⟩
    | true =>
     cases B with
     | true =>
      cases K with
      | false =>
       have HF:Hid ((k:Int)=r):=by unfold Hid;rw[← Aa HRR];simp[h1]
       clear HRR;go_wp2;go_ret;exact⟨by rw[← Aa HF];rfl,hB5⟩
      | true =>
       cases D with
       | false =>
        have HF:Hid ((k:Int)=r):=by unfold Hid;rw[← Aa HRR];simp[h1]
        clear HRR;go_wp2;go_ret;exact⟨by rw[← Aa HF];rfl,hB5⟩
       | true =>
        have HF:Hid (Cd.firstIx (Cd.hndBad T (An code)) (k+1) (hs.drop (k+1))=r):=by unfold Hid;rw[← Aa HRR];simp[h1]
        clear HRR;go_wp2
        go_roundw
        case rel=>exact⟨k+1,by omega,by go_num,HF,hB5,CF5,CM5⟩
        case measure=>simp[intOf];omega
     | false =>
      by_cases h2:til=(code.size:Int)
      ·cases K with
       | false =>
        have HF:Hid ((k:Int)=r):=by unfold Hid;rw[← Aa HRR];simp[h2,show ¬ ((code.size:Int)≤frm) from by omega]
        clear HRR;go_wp2;go_ret;exact⟨by rw[← Aa HF];rfl,hB5⟩
       | true =>
        cases D with
        | false =>
         have HF:Hid ((k:Int)=r):=by unfold Hid;rw[← Aa HRR];simp[h2,show ¬ ((code.size:Int)≤frm) from by omega]
         clear HRR;go_wp2;go_ret;exact⟨by rw[← Aa HF];rfl,hB5⟩
        | true =>
         have HF:Hid (Cd.firstIx (Cd.hndBad T (An code)) (k+1) (hs.drop (k+1))=r):=by unfold Hid;rw[← Aa HRR];simp[h2,show ¬ ((code.size:Int)≤frm) from by omega]
         clear HRR;go_wp2
         go_roundw
         case rel=>exact⟨k+1,by omega,by go_num,HF,hB5,CF5,CM5⟩
         case measure=>simp[intOf];omega
      ·have HF:Hid ((k:Int)=r):=by unfold Hid;rw[← Aa HRR];simp[h2]
       clear HRR;go_wp2;go_ret;exact⟨by rw[← Aa HF];rfl,hB5⟩
  ·have hf:r = -1:=by rw[← Aa HR,List.drop_eq_nil_of_le (by omega)];rfl
   have HF:=Ac hf;have hkb:¬ (k:Int)<(hs.length:Int):=by omega
   clear hf HR;go_wp2;go_ret;exact⟨by rw[Aa HF];rfl,hB⟩
theorem Mn {c:List Int}{k p q:Nat} (h:q∈Cd.starts c k p):q<c.length:=by
 induction k generalizing p with
 | zero=>simp[Cd.starts]at h
 | succ j ih =>
  unfold Cd.starts at h;by_cases hp:p<c.length
  ·rw[if_pos hp]at h;rcases List.mem_cons.1 h with rfl | h
   ·exact hp
   ·exact ih h
  ·rw[if_neg hp]at h;simp at h
theorem Ew {c:List Int}{n:Int} (h:Cd.begB c n=true):0≤n∧n<(c.length:Int):=by
 unfold Cd.begB Cd.places at h;rw[List.any_eq_true]at h;obtain⟨p,hp,hn⟩:=h;have:=Mn hp;simp at hn;omega
def Cd.framed (T c:List Int) (k n:Int):Bool :=
 if k=0∨k=1∨k=2 then n==0 else if k=3 then Tr.hasB T n else if k=4 then Cd.begB c n&&(c.getD n.toNat 0==15) else false
theorem Pg (f:RFl) (m:RMV) (k n:Int) (w:World) (hsz:m.code.size≤100000) :
  Calls Tryz.prog 58 #[f.val,m.val,.agg #[.int .i64 k,.int .i64 n]] w fun e w' =>
   e=.returned (.bool (Cd.framed f.T (An m.code) k n))∧Below w.heap.size w w':=by
 have hBe:=fun w=>Ex m n w hsz;have hHa:=fun w=>Dd f.T f.a1 f.a2 f.c1 f.ms.length f.c2 n w;have hTl:f.T.length=f.l.length:=Bt _;rw[hTl]at hHa;have hbl:=fun h=>Ew (c:=An m.code) (n:=n) h;have hna:=fun p hp=>Dx m.code p hp;rw[Cq]at hbl;generalize f.T=T at *;generalize hres:Cd.framed T (An m.code) k n=R;unfold Cd.framed at hres;obtain⟨fa1,fc1,fa2,fc2,bb,l,ms⟩:=f;obtain⟨cl,nm,pa,pl,pc,r1,r2,lo,st,code,ha,hl',hc,ma,ml,mc,mAt,fin⟩:=m;simp only[RMV.val,RFl.val]at hsz hBe hHa hbl hna hres ⊢;generalize Cd.begB (An code) n=b at *;have HBe:=Ac hBe;have HHa:=Ac hHa;have HNA:=Ac hna;clear hBe hHa hTl hna;by_cases h012:k=0∨k=1∨k=2
 ·rw[if_pos h012]at hres;have HR:=Ac hres;clear hres hbl;rcases h012 with rfl | rfl | rfl
  all_goals
   go_enter Tryz.func58,Tryz.ntmps58;go_wp2;go_ret;exact⟨by rw[← Aa HR];rfl,A8 _ _ _ _⟩
 ·rw[if_neg h012]at hres;by_cases h3:k=3
  ·rw[if_pos h3]at hres;subst h3;have HR:=Ac hres;clear hres hbl h012;go_enter Tryz.func58,Tryz.ntmps58;go_wp2_with fail
   refine(Aa HHa _).mono ?_;rintro e w1 ⟨rfl,hb1⟩;go_wp2;go_ret;exact⟨by rw[← Aa HR];rfl,(A8 _ _ _ _).trans (hb1.mono (by simp;omega))⟩
  ·rw[if_neg h3]at hres;by_cases h4:k=4
   ·rw[if_pos h4]at hres;subst h4;cases b with
    | false =>
     have HR:=Ac hres;clear hres hbl h012 h3;go_enter Tryz.func58,Tryz.ntmps58;go_wp2_with fail
     refine(Aa HBe _).mono ?_;rintro e w1 ⟨rfl,hb1⟩;go_wp2;go_ret;exact⟨by rw[← Aa HR];rfl,(A8 _ _ _ _).trans (hb1.mono (by simp;omega))⟩
    | true =>
     obtain⟨hn0,hn1⟩:=hbl rfl;obtain⟨p,hp⟩:=Int.eq_ofNat_of_zero_le hn0;subst hp;have hpn:p<code.size:=by omega
     have hpn':(p:Int)<(code.size:Int):=by omega
     rw[Int.toNat_natCast,Aa HNA p hpn]at hres;have HR:=Ac hres;clear hres hbl h012 h3 hn0 hn1;go_enter Tryz.func58,Tryz.ntmps58;go_wp2_with fail
     refine(Aa HBe _).mono ?_;rintro e w1 ⟨rfl,hb1⟩;have CM:=stay hb1 (Em w _ _ _).2.1;have CT:=stay hb1 (Em w _ _ _).2.2;have m7:=Ab CM 7;have t1:=Ab CT 1;simp at m7 t1;go_wp2;go_ret;exact⟨by rw[← Aa HR];rfl,(A8 _ _ _ _).trans (hb1.mono (by simp;omega))⟩
   ·rw[if_neg h4]at hres;have HR:=Ac hres;have n0:(k==0)=false:=by simp;omega
    have n1:(k==1)=false:=by simp;omega
    have n2:(k==2)=false:=by simp;omega
    have n3:(k==3)=false:=by simp;omega
    have n4:(k==4)=false:=by simp;omega
    clear hres hbl h012 h3 h4;go_enter Tryz.func58,Tryz.ntmps58;go_wp2;go_ret;exact⟨by rw[← Aa HR];rfl,A8 _ _ _ _⟩
def Cd.frAll (T c:List Int) (l:List (Int × Int)):Bool:=l.all fun t=>Cd.framed T c t.1 t.2
def Cd.mapsBad (T c:List Int):Nat→Int→List Rd.Mp→Int
 | _,_,[]=>-1
 | i,last,x::r=>if Cd.begB c x.place=false then (i:Int) else if x.place≤last then (i:Int) else if Cd.frAll T c x.locals=false then (i:Int) else if Cd.frAll T c x.stack=false then (i:Int) else Cd.mapsBad T c (i+1) x.place r
theorem Bi (l:List (Rd.Mp × Value × Value)) (k:Nat) (hk:k<l.length) (j:Nat) (hj:j<3):(Co l)[k*3+j]?=[Value.int .i64 l[k].1.place,l[k].2.1,l[k].2.2][j]?∧k*3+j<(Co l).length:=by
 refine⟨Dq (fun x:Rd.Mp × Value × Value=>[Value.int .i64 x.1.place,x.2.1,x.2.2]) 3 (fun _=>rfl) l k hk j hj,?_⟩;unfold Co;rw[Cx (fun x:Rd.Mp × Value × Value=>[Value.int .i64 x.1.place,x.2.1,x.2.2]) 3 (fun _=>rfl) l];omega
theorem P9 (f:RFl) (m:RMV) (lm:List (Rd.Mp × Value × Value)) (w:World) (hsz:m.code.size≤100000) (hml:m.ml=lm.length) (hm4:lm.length≤1000) (hml2:∀ p∈lm,p.1.locals.length≤1000∧p.1.stack.length≤1000) (hh:RMpsIn w f.bb (.slice m.ma m.ml m.mc) lm) :
  Calls Tryz.prog 33 #[f.val,m.val] w fun e w' =>
   e=.returned (.int .i64 (Cd.mapsBad f.T (An m.code) 0 (-1) (lm.map Prod.fst)))∧Below w.heap.size w w':=by
 have hBe:=fun x w=>Ex m x w hsz;have hFr:=fun k n w=>Pg f m k n w hsz;have hB0:=Ak w (O11 f.a1 f.l.length f.c1 f.a2 f.ms.length f.c2) m.obj;have CF0:=Ah w (O11 f.a1 f.l.length f.c1 f.a2 f.ms.length f.c2) m.obj;have CM0:=Ag w (O11 f.a1 f.l.length f.c1 f.a2 f.ms.length f.c2) m.obj;have HHN:∀ w',Below w.heap.size w w'→RMpsIn w' f.bb (.slice m.ma m.ml m.mc) lm:=fun w' hb=>hh.kp (Kp.of_below (e:=none) hb) (by decide) (by decide);generalize f.T=T at *;generalize hr:Cd.mapsBad T (An m.code) 0 (-1) (lm.map Prod.fst)=r;have HR:Hid (Cd.mapsBad T (An m.code) 0 (-1) ((lm.map Prod.fst).drop 0)=r):=hr;clear hr hh;obtain⟨fa1,fc1,fa2,fc2,bb,l,ms⟩:=f;obtain⟨cl,nm,pa,pl,pc,r1,r2,lo,st,code,ha,hl',hc,ma,ml,mc,mAt,fin⟩:=m;simp only at hml;subst hml;simp only[RMV.val,RMV.obj,RFl.val]at hsz hBe hFr hB0 CF0 CM0 HHN HR ⊢;have HBe:=Ac hBe;have HFr:=Ac hFr;have HHN':=Ac HHN;have HL2:=Ac hml2;clear hBe hFr HHN hml2;go_enter Tryz.func33,Tryz.ntmps33;go_wp2
 go_loopw [5,6] (fun u v wr=>∃ (k:Nat) (last:Int),k≤lm.length∧v=.int .i64 (k:Int)∧u=.int .i64 last∧Hid (Cd.mapsBad T (An code) k last ((lm.map Prod.fst).drop k)=r)∧Below w.heap.size w wr ∧
   wr.heap[w.heap.size]?=some (O11 fa1 l.length fc1 fa2 ms.length fc2)∧wr.heap[w.heap.size+1]?=some (O14 cl nm pa pl pc r1 r2 lo st code ha hl' hc ma lm.length mc mAt fin))
  (fun _ v _=>lm.length-(intOf v).toNat)
 case atStart=>exact⟨0,-1,by omega,rfl,rfl,HR,hB0,CF0,CM0⟩
 case round =>
  clear hB0 CF0 CM0 HR;obtain⟨k,last,hk,rfl,rfl,HR,hB,CF,CM⟩:=hrel;obtain⟨m0,m1,m2,m3,m4,m5,m6,m7,m8,m9,m10,m11⟩:=Ap CM;simp at m0 m1 m2 m3 m4 m5 m6 m7 m8 m9 m10 m11;obtain⟨f0,f1⟩:=cl2 CF;simp at f0 f1;have hBs:=hB.size;have lF:=lt_of_block CF;have lM:=lt_of_block CM;by_cases hkn:k<lm.length
  ·have hmr:=Aa HHN' _ hB;obtain⟨g,hg,hglt,_,hcell⟩:=Ao hmr.1 (by omega);have y0:=(hcell _ (Bi lm k hkn 0 (by omega)).2).trans (Bi lm k hkn 0 (by omega)).1;have y1:=(hcell _ (Bi lm k hkn 1 (by omega)).2).trans (Bi lm k hkn 1 (by omega)).1;have y2:=(hcell _ (Bi lm k hkn 2 (by omega)).2).trans (Bi lm k hkn 2 (by omega)).1;obtain⟨ht1,ht2⟩:=hmr.2 _ (List.getElem_mem hkn);obtain⟨hl1,hl2⟩:=Aa HL2 _ (List.getElem_mem hkn);have hd:(lm.map Prod.fst).drop k=lm[k].1::(lm.map Prod.fst).drop (k+1):=by
    rw[List.drop_eq_getElem_cons (by simpa using hkn)]
    simp
   have hr:=Aa HR;rw[hd,Cd.mapsBad]at hr;generalize lm[k]=x at *;obtain⟨⟨plc,loc,stk⟩,v1,v2⟩:=x;simp only at y0 y1 y2 ht1 ht2 hl1 hl2 hr;obtain⟨v1a,v1c,rfl⟩:=Af ht1;obtain⟨v2a,v2c,rfl⟩:=Af ht2;simp at y0 y1 y2;have hbe:=fun w=>Aa HBe plc w;generalize Cd.begB (An code) plc=B at *;have HB:=Ac hbe;have HT1:Hid (∀ w',Below wr.heap.size wr w'→TysAt w' bb (.slice v1a loc.length v1c) loc):=fun w' hb=>ht1.kp (Kp.of_below (e:=none) hb) (by decide);have HT2:Hid (∀ w',Below wr.heap.size wr w'→TysAt w' bb (.slice v2a stk.length v2c) stk):=fun w' hb=>ht2.kp (Kp.of_below (e:=none) hb) (by decide);generalize hLA:Cd.frAll T (An code) loc=LA at *;generalize hSA:Cd.frAll T (An code) stk=SA at *;have HLA:Hid (Cd.frAll T (An code) (loc.drop 0)=LA):=hLA;have HSA:Hid (Cd.frAll T (An code) (stk.drop 0)=SA):=hSA;have HRR:=Ac hr;have hkb:(k:Int)<(lm.length:Int):=by omega
   clear hbe hr hd hcell HR HHN' hLA hSA ht1 ht2 hmr HL2;subst hg;have CX:=Ad wr (O9 plc v1a loc.length v1c v2a stk.length v2c);have hBo0:Below wr.heap.size wr (wr.alloc (O9 plc v1a loc.length v1c v2a stk.length v2c)):=QN _;have CF0:=Aj CF (O9 plc v1a loc.length v1c v2a stk.length v2c);have CM0:=Aj CM (O9 plc v1a loc.length v1c v2a stk.length v2c)
   rename World=>w1
   go_wp2_with fail
   refine(Aa HB _).mono ?_;rintro e w2 ⟨rfl,hb2⟩;have hBo2:Below w1.heap.size w1 w2:=hBo0.trans (hb2.mono (by simp));have CF2:=stay hb2 CF0;have CM2:=stay hb2 CM0;have CX2:=stay hb2 CX;clear m0 m1 m2 m3 m4 m5 m6 m7 m8 m9 m10 m11 f0 f1 y0 y1 y2 hb2 CF CM CF0 CM0 CX hBo0;obtain⟨x0,x1,x2⟩:=cl3 CX2;simp at x0 x1 x2;cases B with
   | false =>
    have HF:Hid ((k:Int)=r):=by unfold Hid;rw[← Aa HRR];simp
    clear HRR;go_wp2;go_ret;exact⟨by rw[← Aa HF];rfl,hB.trans (hBo2.mono hBs)⟩
   | true =>
    by_cases hpl:plc≤last
    ·have HF:Hid ((k:Int)=r):=by unfold Hid;rw[← Aa HRR];simp[hpl]
     clear HRR;go_wp2;go_ret;exact⟨by rw[← Aa HF];rfl,hB.trans (hBo2.mono hBs)⟩
    ·have HRS:Hid ((if LA=false then (k:Int) else if SA=false then (k:Int) else Cd.mapsBad T (An code) (k+1) plc ((lm.map Prod.fst).drop (k+1)))=r):=by unfold Hid;rw[← Aa HRR];simp[hpl]
     clear HRR;go_wp2
     go_loopw [9] (fun v wr=>∃ q:Nat,q≤loc.length∧v=.int .i64 (q:Int)∧Hid (Cd.frAll T (An code) (loc.drop q)=LA)∧Below w1.heap.size w1 wr ∧
       wr.heap[w.heap.size]?=some (O11 fa1 l.length fc1 fa2 ms.length fc2)∧wr.heap[w.heap.size+1]?=some (O14 cl nm pa pl pc r1 r2 lo st code ha hl' hc (some ⟨g,0,none⟩) lm.length mc mAt fin)∧wr.heap[w1.heap.size]?=some (O9 plc v1a loc.length v1c v2a stk.length v2c))
      (fun v _=>loc.length-(intOf v).toNat)
     case atStart=>exact⟨0,by omega,rfl,HLA,hBo2,CF2,CM2,CX2⟩
     case round =>
      clear HLA hBo2 CF2 CM2 CX2 x0 x1 x2;obtain⟨q,hq,rfl,HLA,hBo,CF,CM,CX⟩:=hrel;obtain⟨m0,m1,m2,m3,m4,m5,m6,m7,m8,m9,m10,m11⟩:=Ap CM;simp at m0 m1 m2 m3 m4 m5 m6 m7 m8 m9 m10 m11;obtain⟨f0,f1⟩:=cl2 CF;obtain⟨x0,x1,x2⟩:=cl3 CX;simp at f0 f1 x0 x1 x2;have lF':=lt_of_block CF;have lM':=lt_of_block CM;have lX:=lt_of_block CX;by_cases hqn:q<loc.length
      ·obtain⟨g2,hg2,hg2lt,_,hcell2⟩:=Ao (Aa HT1 _ hBo) (by omega);obtain⟨e1,e2,e3⟩:=Az loc q hqn;have u0:=(hcell2 (q*2) (by omega)).trans e1;have u1:=(hcell2 (q*2+1) (by omega)).trans e2;have hdq:loc.drop q=loc[q]::loc.drop (q+1):=List.drop_eq_getElem_cons hqn;have hA:=Aa HLA;unfold Cd.frAll at hA;rw[hdq,List.all_cons]at hA;generalize loc[q]=t at *;obtain⟨t1,t2⟩:=t;simp only at u0 u1 hA;have hfr:=fun w=>Aa HFr t1 t2 w;generalize Cd.framed T (An code) t1 t2=Z at *;have HZ:=Ac hfr;have HAA:=Ac hA;have qb:(q:Int)<(loc.length:Int):=by omega
       clear hfr hA hdq e1 e2 e3 hcell2 HLA;subst hg2;have lF:w.heap.size<wr.heap.size:=lF';have lM:w.heap.size+1<wr.heap.size:=lM';have lG:g2<wr.heap.size:=hg2lt;go_wp2
       go_region_held3 (fun w'=>w'.cell? ⟨w.heap.size,0,none⟩=some (.slice fa1 l.length fc1)∧w'.cell? ⟨w.heap.size,1,none⟩=some (.slice fa2 ms.length fc2)∧w'.cell? ⟨w.heap.size+1,0,none⟩=some (.int .i64 cl)∧w'.cell? ⟨w.heap.size+1,1,none⟩=some (.int .i64 nm)∧w'.cell? ⟨w.heap.size+1,2,none⟩=some (.slice pa pl pc)∧w'.cell? ⟨w.heap.size+1,3,none⟩=some (.int .i64 r1)∧w'.cell? ⟨w.heap.size+1,4,none⟩=some (.int .i64 r2)∧w'.cell? ⟨w.heap.size+1,5,none⟩=some (.int .i64 lo)∧w'.cell? ⟨w.heap.size+1,6,none⟩=some (.int .i64 st)∧w'.cell? ⟨w.heap.size+1,7,none⟩=some (.string code)∧w'.cell? ⟨w.heap.size+1,8,none⟩=some (.slice ha hl' hc)∧w'.cell? ⟨w.heap.size+1,9,none⟩=some (.slice (some ⟨g,0,none⟩) lm.length mc)∧w'.cell? ⟨w.heap.size+1,10,none⟩=some (.int .i64 mAt)∧w'.cell? ⟨w.heap.size+1,11,none⟩=some (.int .i64 fin)∧w'.cell? ⟨w1.heap.size,1,none⟩=some (.slice (some ⟨g2,0,none⟩) loc.length v1c)∧w'.cell? ⟨g2,q*2,none⟩=some (.int .i64 t1)∧w'.cell? ⟨g2,q*2+1,none⟩=some (.int .i64 t2))
        (first | exact⟨f0,f1,m0,m1,m2,m3,m4,m5,m6,m7,m8,m9,m10,m11,x1,u0,u1⟩ | exact⟨QC hb7 lF f0,QC hb7 lF f1,QC hb7 lM m0,QC hb7 lM m1,QC hb7 lM m2,QC hb7 lM m3,QC hb7 lM m4,QC hb7 lM m5,QC hb7 lM m6,QC hb7 lM m7,QC hb7 lM m8,QC hb7 lM m9,QC hb7 lM m10,QC hb7 lM m11,QC hb7 lX x1,QC hb7 lG u0,QC hb7 lG u1⟩)
        (first | (go_at_call 58;refine(Aa HZ _).mono ?_;rintro e w7 ⟨rfl,hb7⟩))
       have hBo7:Below w1.heap.size w1 w7:=hBo.drew.trans (hb7.mono hBo.size);have CF7:=stay hb7 (show (wr.drew).heap[w.heap.size]?=_ from CF);have CM7:=stay hb7 (show (wr.drew).heap[w.heap.size+1]?=_ from CM);have CX7:=stay hb7 (show (wr.drew).heap[w1.heap.size]?=_ from CX);clear hb7 m0 m1 m2 m3 m4 m5 m6 m7 m8 m9 m10 m11 f0 f1 x0 x1 x2 u0 u1 CF CM CX hBo lF lM lG;cases Z with
       | false =>
        have hLA:LA=false:=by rw[← Aa HAA];simp
        have HF:Hid ((k:Int)=r):=by unfold Hid;rw[← Aa HRS,hLA];simp
        clear HAA;go_wp2;go_ret;exact⟨by rw[← Aa HF];rfl,hB.trans (hBo7.mono hBs)⟩
       | true =>
        have HG:Hid (Cd.frAll T (An code) (loc.drop (q+1))=LA):=by unfold Hid Cd.frAll;rw[← Aa HAA];simp
        clear HAA;go_wp2
        go_roundw
        case rel=>exact⟨q+1,by omega,by go_num,HG,hBo7,CF7,CM7,CX7⟩
        case measure=>simp[intOf];omega
      ·have hLA:LA=true:=by rw[← Aa HLA,List.drop_eq_nil_of_le (by omega)];rfl
       have qb:¬ (q:Int)<(loc.length:Int):=by omega
       clear HLA;have HRT:Hid ((if SA=false then (k:Int) else Cd.mapsBad T (An code) (k+1) plc ((lm.map Prod.fst).drop (k+1)))=r):=by unfold Hid;rw[← Aa HRS,hLA];simp
       have hBo2:=hBo;have CF2:=CF;have CM2:=CM;have CX2:=CX;clear HRS hLA hBo CF CM CX m0 m1 m2 m3 m4 m5 m6 m7 m8 m9 m10 m11 f0 f1 lF' lM' lX;go_wp2
       go_loopw [11] (fun v wr=>∃ q:Nat,q≤stk.length∧v=.int .i64 (q:Int)∧Hid (Cd.frAll T (An code) (stk.drop q)=SA)∧Below w1.heap.size w1 wr ∧
         wr.heap[w.heap.size]?=some (O11 fa1 l.length fc1 fa2 ms.length fc2)∧wr.heap[w.heap.size+1]?=some (O14 cl nm pa pl pc r1 r2 lo st code ha hl' hc (some ⟨g,0,none⟩) lm.length mc mAt fin)∧wr.heap[w1.heap.size]?=some (O9 plc v1a loc.length v1c v2a stk.length v2c))
        (fun v _=>stk.length-(intOf v).toNat)
       case atStart=>exact⟨0,by omega,rfl,HSA,hBo2,CF2,CM2,CX2⟩
       case round =>
        clear HSA hBo2 CF2 CM2 CX2 x0 x1 x2;obtain⟨q,hq,rfl,HSA,hBo,CF,CM,CX⟩:=hrel;obtain⟨m0,m1,m2,m3,m4,m5,m6,m7,m8,m9,m10,m11⟩:=Ap CM;simp at m0 m1 m2 m3 m4 m5 m6 m7 m8 m9 m10 m11;obtain⟨f0,f1⟩:=cl2 CF;obtain⟨x0,x1,x2⟩:=cl3 CX;simp at f0 f1 x0 x1 x2;have lF':=lt_of_block CF;have lM':=lt_of_block CM;have lX:=lt_of_block CX;by_cases hqn:q<stk.length
        ·obtain⟨g2,hg2,hg2lt,_,hcell2⟩:=Ao (Aa HT2 _ hBo) (by omega);obtain⟨e1,e2,e3⟩:=Az stk q hqn;have u0:=(hcell2 (q*2) (by omega)).trans e1;have u1:=(hcell2 (q*2+1) (by omega)).trans e2;have hdq:stk.drop q=stk[q]::stk.drop (q+1):=List.drop_eq_getElem_cons hqn;have hA:=Aa HSA;unfold Cd.frAll at hA;rw[hdq,List.all_cons]at hA;generalize stk[q]=t at *;obtain⟨t1,t2⟩:=t;simp only at u0 u1 hA;have hfr:=fun w=>Aa HFr t1 t2 w;generalize Cd.framed T (An code) t1 t2=Z at *;have HZ:=Ac hfr;have HAA:=Ac hA;have qb:(q:Int)<(stk.length:Int):=by omega
         clear hfr hA hdq e1 e2 e3 hcell2 HSA;subst hg2;have lF:w.heap.size<wr.heap.size:=lF';have lM:w.heap.size+1<wr.heap.size:=lM';have lG:g2<wr.heap.size:=hg2lt;go_wp2
         go_region_held3 (fun w'=>w'.cell? ⟨w.heap.size,0,none⟩=some (.slice fa1 l.length fc1)∧w'.cell? ⟨w.heap.size,1,none⟩=some (.slice fa2 ms.length fc2)∧w'.cell? ⟨w.heap.size+1,0,none⟩=some (.int .i64 cl)∧w'.cell? ⟨w.heap.size+1,1,none⟩=some (.int .i64 nm)∧w'.cell? ⟨w.heap.size+1,2,none⟩=some (.slice pa pl pc)∧w'.cell? ⟨w.heap.size+1,3,none⟩=some (.int .i64 r1)∧w'.cell? ⟨w.heap.size+1,4,none⟩=some (.int .i64 r2)∧w'.cell? ⟨w.heap.size+1,5,none⟩=some (.int .i64 lo)∧w'.cell? ⟨w.heap.size+1,6,none⟩=some (.int .i64 st)∧w'.cell? ⟨w.heap.size+1,7,none⟩=some (.string code)∧w'.cell? ⟨w.heap.size+1,8,none⟩=some (.slice ha hl' hc)∧w'.cell? ⟨w.heap.size+1,9,none⟩=some (.slice (some ⟨g,0,none⟩) lm.length mc)∧w'.cell? ⟨w.heap.size+1,10,none⟩=some (.int .i64 mAt)∧w'.cell? ⟨w.heap.size+1,11,none⟩=some (.int .i64 fin)∧w'.cell? ⟨w1.heap.size,2,none⟩=some (.slice (some ⟨g2,0,none⟩) stk.length v2c)∧w'.cell? ⟨g2,q*2,none⟩=some (.int .i64 t1)∧w'.cell? ⟨g2,q*2+1,none⟩=some (.int .i64 t2))
          (first | exact⟨f0,f1,m0,m1,m2,m3,m4,m5,m6,m7,m8,m9,m10,m11,x2,u0,u1⟩ | exact⟨QC hb7 lF f0,QC hb7 lF f1,QC hb7 lM m0,QC hb7 lM m1,QC hb7 lM m2,QC hb7 lM m3,QC hb7 lM m4,QC hb7 lM m5,QC hb7 lM m6,QC hb7 lM m7,QC hb7 lM m8,QC hb7 lM m9,QC hb7 lM m10,QC hb7 lM m11,QC hb7 lX x2,QC hb7 lG u0,QC hb7 lG u1⟩)
          (first | (go_at_call 58;refine(Aa HZ _).mono ?_;rintro e w7 ⟨rfl,hb7⟩))
         have hBo7:Below w1.heap.size w1 w7:=hBo.drew.trans (hb7.mono hBo.size);have CF7:=stay hb7 (show (wr.drew).heap[w.heap.size]?=_ from CF);have CM7:=stay hb7 (show (wr.drew).heap[w.heap.size+1]?=_ from CM);have CX7:=stay hb7 (show (wr.drew).heap[w1.heap.size]?=_ from CX);clear hb7 m0 m1 m2 m3 m4 m5 m6 m7 m8 m9 m10 m11 f0 f1 x0 x1 x2 u0 u1 CF CM CX hBo lF lM lG;cases Z with
         | false =>
          have hLA:SA=false:=by rw[← Aa HAA];simp
          have HF:Hid ((k:Int)=r):=by unfold Hid;rw[← Aa HRT,hLA];simp
          clear HAA;go_wp2;go_ret;exact⟨by rw[← Aa HF];rfl,hB.trans (hBo7.mono hBs)⟩
         | true =>
          have HG:Hid (Cd.frAll T (An code) (stk.drop (q+1))=SA):=by unfold Hid Cd.frAll;rw[← Aa HAA];simp
          clear HAA;go_wp2
          go_roundw
          case rel=>exact⟨q+1,by omega,by go_num,HG,hBo7,CF7,CM7,CX7⟩
          case measure=>simp[intOf];omega
        ·have hLA:SA=true:=by rw[← Aa HSA,List.drop_eq_nil_of_le (by omega)];rfl
         have qb:¬ (q:Int)<(stk.length:Int):=by omega
         clear HSA;have HG:Hid (Cd.mapsBad T (An code) (k+1) plc ((lm.map Prod.fst).drop (k+1))=r):=by unfold Hid;rw[← Aa HRT,hLA];simp
         clear HRT hLA;go_wp2
         go_roundw
         case rel=>exact⟨k+1,_,by omega,by go_num,rfl,HG,hB.trans (hBo.mono hBs),CF,CM⟩
         case measure=>simp[intOf];omega
  ·have hf:r = -1:=by rw[← Aa HR,List.drop_eq_nil_of_le (by simp;omega)];rfl
   have HF:=Ac hf;have hkb:¬ (k:Int)<(lm.length:Int):=by omega
   clear hf HR;go_wp2;go_ret;exact⟨by rw[Aa HF];rfl,hB⟩
theorem Gc {α:Type} [DecidableEq α] {a b:List α}{k:Nat} (ha:k<a.length) (hb:k<b.length):decide (a.drop k=b.drop k)=(decide (a[k]=b[k])&&decide (a.drop (k+1)=b.drop (k+1))):=by
 rw[List.drop_eq_getElem_cons ha,List.drop_eq_getElem_cons hb];simp only[List.cons.injEq];exact Bool.decide_and _ _
theorem Mw (la lb:List (Int × Int)) (a1 a2:Option Addr) (c1 c2 b1 b2:Nat) (w:World) (ha:TysAt w b1 (.slice a1 la.length c1) la) (hb:TysAt w b2 (.slice a2 lb.length c2) lb) (hl:la.length≤1000) (hl2:lb.length≤1000) :
  Calls Tryz.prog 53 #[.slice a1 la.length c1,.slice a2 lb.length c2] w fun e w'=>e=.returned (.bool (decide (la=lb)))∧Below w.heap.size w w':=by
 by_cases hlen:la.length=lb.length
 ·generalize hr:decide (la=lb)=r;have HR:Hid (decide (la.drop 0=lb.drop 0)=r):=hr;clear hr;have hlen':((la.length:Int) != (lb.length:Int))=false:=by simp;omega
  have HHL:=Ac hlen;clear hlen;go_enter Tryz.func53,Tryz.ntmps53;go_wp2
  go_loopw [5] (fun v wr=>∃ k:Nat,k≤la.length∧v=.int .i64 (k:Int)∧Hid (decide (la.drop k=lb.drop k)=r)∧Below w.heap.size w wr)
   (fun v _=>la.length-(intOf v).toNat)
  case atStart=>exact⟨0,by omega,rfl,HR,Below.refl _ _⟩
  case round =>
   clear HR;obtain⟨k,hk,rfl,HR,hB⟩:=hrel;by_cases hkn:k<la.length
   ·have hkn2:k<lb.length:=by have:=Aa HHL;omega
    obtain⟨g,hg,hglt,_,hcell⟩:=Ao (ha.kp (Kp.of_below (e:=none) hB) (by decide)) (by omega);obtain⟨g2,hg2,hglt2,_,hcell2⟩:=Ao (hb.kp (Kp.of_below (e:=none) hB) (by decide)) (by omega);obtain⟨t1,t2,t3⟩:=Az la k hkn;obtain⟨s1,s2,s3⟩:=Az lb k hkn2;have u0:=(hcell (k*2) (by omega)).trans t1;have u1:=(hcell (k*2+1) (by omega)).trans t2;have v0:=(hcell2 (k*2) (by omega)).trans s1;have v1:=(hcell2 (k*2+1) (by omega)).trans s2;have hr:=Aa HR;rw[Gc hkn hkn2]at hr;generalize la[k]=x at *;generalize lb[k]=y at *;obtain⟨x1,x2⟩:=x;obtain⟨y1,y2⟩:=y;simp only[Prod.mk.injEq]at u0 u1 v0 v1 hr;have kb1:(k:Int)<(la.length:Int):=by omega
    have kb2:(k:Int)<(lb.length:Int):=by omega
    have HRR:=Ac hr;clear hr HR hcell hcell2 t1 t2 t3 s1 s2 s3;subst hg hg2;by_cases hxy:x1=y1∧x2=y2
    ·obtain⟨rfl,rfl⟩:=hxy;have HF:Hid (decide (la.drop (k+1)=lb.drop (k+1))=r):=by unfold Hid;rw[← Aa HRR];simp
     clear HRR;go_wp2
     go_region
     all_goals
      go_wp2
      go_roundw
      case rel=>exact⟨k+1,by omega,by go_num,HF,hB.drew⟩
      case measure=>simp[intOf];omega
    ·have hr2:r=false:=by rw[← Aa HRR];simp[hxy]
     have HF:=Ac hr2;clear HRR hr2;by_cases h1:x1=y1
     ·subst h1;have h2:¬ x2=y2:=fun h=>hxy ⟨rfl,h⟩;clear hxy;go_wp2
      go_region
      all_goals
       go_wp2;go_ret;exact⟨by rw[Aa HF];rfl,hB.drew⟩
     ·clear hxy;go_wp2
      go_region
      all_goals
       go_wp2;go_ret;exact⟨by rw[Aa HF];rfl,hB.drew⟩
   ·have hr2:r=true:=by
     rw[← Aa HR,List.drop_eq_nil_of_le (by omega),List.drop_eq_nil_of_le (by have:=Aa HHL;omega)];rfl
    have HF:=Ac hr2;have kb1:¬ (k:Int)<(la.length:Int):=by omega
    clear hr2 HR;go_wp2;go_ret;exact⟨by rw[Aa HF];rfl,hB⟩
 ·have hne:la≠lb:=fun h=>hlen (by rw[h]);have hd:decide (la=lb)=false:=by simp[hne]
  rw[hd];have hlen':((la.length:Int) != (lb.length:Int))=true:=by simp;omega
  clear hlen hne;go_enter Tryz.func53,Tryz.ntmps53;go_wp2;go_ret;exact⟨rfl,Below.refl _ _⟩
def RMV.list (m:RMV):List Value:=[.int .i64 m.cl,.int .i64 m.nm,.slice m.pa m.pl m.pc,.int .i64 m.r1,.int .i64 m.r2,.int .i64 m.lo,.int .i64 m.st,.string m.code,.slice m.ha m.hl m.hc,.slice m.ma m.ml m.mc,.int .i64 m.mAt,.int .i64 m.fin]
structure RMV.is (m:RMV) (x:Rf.Mth) (w:World) (bb:Nat):Prop where
 cl:m.cl=x.m.cl
 nm:m.nm=x.m.name
 r1:m.r1=x.m.result.1
 r2:m.r2=x.m.result.2
 lo:m.lo=x.m.locals
 st:m.st=x.m.stack
 mAt:m.mAt=x.mapsAt
 fin:m.fin=x.fin
 pl:m.pl=x.m.params.length
 ps:TysAt w bb (.slice m.pa m.pl m.pc) x.m.params
 code:An m.code=x.m.code
 hl:m.hl=x.m.handlers.length
 hs:RHndsAt w bb (.slice m.ha m.hl m.hc) x.m.handlers
 ml:m.ml=x.m.maps.length
 mp:Uk w bb (.slice m.ma m.ml m.mc) x.m.maps
theorem RMV.is.below {m:RMV}{x:Rf.Mth}{w w':World}{bb:Nat} (h:m.is x w bb) (hb:Below w.heap.size w w'):m.is x w' bb:=by
 obtain⟨h1,h2,h3,h4,h5,h6,h7,h8,h9,h10,h11,h12,h13,h14,l,hl,h15⟩:=h;exact⟨h1,h2,h3,h4,h5,h6,h7,h8,h9,h10.kp (Kp.of_below (e:=none) hb) (by decide),h11,h12,h13.kp (Kp.of_below (e:=none) hb) (by decide),h14,l,hl,h15.kp (Kp.of_below (e:=none) hb) (by decide) (by decide)⟩
theorem RFl.mth {f:RFl}{w:World} (hf:f.ok w) {k:Nat} (hk:k<f.ms.length) :
  ∃ (m:RMV) (g:Nat),f.a2=some ⟨g,0,none⟩∧g<w.heap.size∧(∀ j v,m.list[j]?=some v→w.cell? ⟨g,k*12+j,none⟩=some v)∧m.is f.ms[k].1 w f.bb:=by
 obtain⟨hrow,hall⟩:=hf.2.2.2.2.2;obtain⟨g,hg,hglt,_,hcell⟩:=Ao hrow (by omega);obtain⟨hp,hc,hh,lm,hlm,hm⟩:=hall _ (List.getElem_mem hk);have hat:=fun j hj=>Ln f.ms k hk j hj;generalize f.ms[k]=x at *;obtain⟨x,u⟩:=x;obtain⟨up,uc,uh,um⟩:=u;simp only at hp hc hh hm hat;obtain⟨pa,pc,rfl⟩:=Af hp;obtain⟨ha,hc',rfl⟩:=Af hh;obtain⟨ma,mc,rfl⟩:=Af hm.1;have hml:lm.length=x.m.maps.length:=by rw[← hlm];simp
 refine⟨⟨x.m.cl,x.m.name,pa,x.m.params.length,pc,x.m.result.1,x.m.result.2,x.m.locals,x.m.stack,uc,ha,x.m.handlers.length,hc',ma,lm.length,mc,x.mapsAt,x.fin⟩,g,hg,hglt,?_,⟨rfl,rfl,rfl,rfl,rfl,rfl,rfl,rfl,rfl,hp,hc,rfl,hh,hml,lm,hlm,hm⟩⟩;intro j v hv;have hj:j<12:=by
  have:=(List.getElem?_eq_some_iff.1 hv).1
  simpa[RMV.list] using this
 obtain⟨e1,e2⟩:=hat j hj;rw[hcell _ e2,e1,← hv];rfl
end Go.Proofs.YtcefiamkoincoaaGreat
