/- a part of the proof -/
import Derived.Test.YtcefiamkoincoaaGreatPk13
set_option maxRecDepth 100000
set_option maxHeartbeats 40000000
set_option linter.unusedVariables false
set_option linter.unusedSimpArgs false
namespace Go.Proofs.YtcefiamkoincoaaGreat
open Go.RowKit
abbrev Adn:Rf.Mth × RMthV:=⟨⟨⟨0,0,[],(0,0),0,0,[],[],[]⟩,0,0⟩,⟨.slice none 0 0,⟨#[]⟩,.slice none 0 0,.slice none 0 0⟩⟩
def Aag (F:List Rf.Fld) (ms:List Rd.Mth) (res:Int × Int) (op n:Int):List (Int × Int) :=
 if op=7∨op=8∨op=9∨op=10∨op=13 then [(1,0),(1,0)] else if op=12∨op=25 then [(1,0)] else if op=14∨op=19 then [(3,0)]
 else if op=17 then [(3,(F.getD n.toNat ⟨0,0,(0,0)⟩).owner)] else if op=18 then [(3,(F.getD n.toNat ⟨0,0,(0,0)⟩).owner),(F.getD n.toNat ⟨0,0,(0,0)⟩).t]
 else if op=20 then (ms.getD n.toNat ⟨0,0,[],(0,0),0,0,[],[],[]⟩).params else if op=21 then (3,(ms.getD n.toNat ⟨0,0,[],(0,0),0,0,[],[],[]⟩).cl)::(ms.getD n.toNat ⟨0,0,[],(0,0),0,0,[],[],[]⟩).params
 else if op=22 then Aau res else if op=23 then [(3,1)] else []
def Aal (F:List Rf.Fld) (ms:List Rd.Mth) (op n:Int):List (Int × Int) :=
 if op=0∨op=7∨op=8∨op=9∨op=10∨op=24 then [(1,0)] else if op=1 then [(2,0)] else if op=17 then [(F.getD n.toNat ⟨0,0,(0,0)⟩).t]
 else if op=19 then [(3,n)] else if op=20∨op=21 then Aau (ms.getD n.toNat ⟨0,0,[],(0,0),0,0,[],[],[]⟩).result else []
theorem Bh (l:List Rf.Fld) (k:Nat) (hk:k<l.length) (j:Nat) (hj:j<4):(D9 l)[k*4+j]?=[Value.int .i64 l[k].owner,.int .i64 l[k].slot,.int .i64 l[k].t.1,.int .i64 l[k].t.2][j]?∧k*4+j<(D9 l).length:=by
 refine⟨Dq (fun x:Rf.Fld=>[Value.int .i64 x.owner,.int .i64 x.slot,.int .i64 x.t.1,.int .i64 x.t.2]) 4 (fun _=>rfl) l k hk j hj,?_⟩;unfold D9;rw[Cx (fun x:Rf.Fld=>[Value.int .i64 x.owner,.int .i64 x.slot,.int .i64 x.t.1,.int .i64 x.t.2]) 4 (fun _=>rfl) l];omega
theorem Ko (ms:List (Rf.Mth × RMthV)) (q:Nat):(ms.map fun x=>x.1.m).getD q ⟨0,0,[],(0,0),0,0,[],[],[]⟩=(ms.getD q Adn).1.m:=by
 simp only[List.getD_eq_getElem?_getD,List.getElem?_map];cases ms[q]? <;> rfl
theorem Sd (f:RFl) (m:RMV) (p:Nat) (w:World) (hf:f.ok w) (hp:p<m.code.size) (hs:m.code.size≤100000) (hpl:∀ x∈f.ms,x.1.m.params.length≤1000)
  (hN1:(An m.code).getD p 0=17∨(An m.code).getD p 0=18→0≤Rf.at' m.code.data.toList ((p:Int)+1)∧Rf.at' m.code.data.toList ((p:Int)+1)<(f.fields.length:Int))
  (hN2:(An m.code).getD p 0=20∨(An m.code).getD p 0=21→0≤Rf.at' m.code.data.toList ((p:Int)+1)∧Rf.at' m.code.data.toList ((p:Int)+1)<(f.ms.length:Int)) :
  Calls Tryz.prog 186 #[f.val,m.val,.int .i64 (p:Int)] w fun e w' =>
   ∃ a c,e=.returned (.slice a (Aag f.fields (f.ms.map fun x=>x.1.m) (m.r1,m.r2) ((An m.code).getD p 0) (Rf.at' m.code.data.toList ((p:Int)+1))).length c) ∧
    TyR w' (.slice a (Aag f.fields (f.ms.map fun x=>x.1.m) (m.r1,m.r2) ((An m.code).getD p 0) (Rf.at' m.code.data.toList ((p:Int)+1))).length c) (Aag f.fields (f.ms.map fun x=>x.1.m) (m.r1,m.r2) ((An m.code).getD p 0) (Rf.at' m.code.data.toList ((p:Int)+1)))∧Below w.heap.size w w':=by
 rw[Dx _ _ hp]at hN1 hN2 ⊢;have hAr:=fun w=>Er m p w hp hs;have hGi:=fun w=>Hx m w;have hFi:=fun w (h:f.ok w)=>Gw f.a1 f.a2 f.c1 f.ms.length f.c2 f.bb f.l w h.1 h.2.1 h.2.2.2.1 h.2.2.2.2.1;have hF0:=hf;obtain⟨fa1,fc1,fa2,fc2,bb,l,ms⟩:=f;obtain⟨cl,nm,pa,pl,pc,r1,r2,lo,st,code,ha,hl,hc,ma,ml,mc,mAt,fin⟩:=m;simp only[RMV.val,RFl.val]at hp hs hAr hFi hGi hN1 hN2 hpl ⊢;have hfe:(RFl.mk fa1 fc1 fa2 fc2 bb l ms).fields=Rf.fieldsTo (Al l) (l.map Prod.fst) (l.length-7):=rfl;rw[← hfe]at hFi;generalize (RFl.mk fa1 fc1 fa2 fc2 bb l ms).fields=flds at *;generalize Rf.at' code.data.toList ((p:Int)+1)=n at *;generalize hres:Aag flds (ms.map fun x=>x.1.m) (r1,r2) (code[p].toNat:Int) n=R;have hp':(p:Int)<(code.size:Int):=by omega
 have hwb:∀ c:UInt8,IntKind.i64.wrap (c.toNat:Int)=(c.toNat:Int):=fun c=>Bd _ (by omega) (by have:=c.toNat_lt;omega);have HAr:=Ac hAr;have HGi:=Ac hGi;have HFi:=Ac hFi;have HF0:=Ac hF0;have HN1:=Ac hN1;have HN2:=Ac hN2;have HPL:=Ac hpl;clear hAr hGi hFi hF0 hf hN1 hN2 hpl hfe;by_cases hop:(code[p].toNat:Int)=7
 ·have HR:Hid (R=[(1,0),(1,0)]):=by unfold Hid;rw[← hres];unfold Aag;rw[hop];simp
  clear hres;go_enter Tryz.func186,Tryz.ntmps186;go_wp2_with fail
  refine(Aa HAr _).mono ?_;rintro e w1 ⟨rfl,hb1⟩;have hB1:=(Ak w _ _).trans (hb1.mono (by simp;omega));have CF:=stay hb1 (Ah w _ _);have CM:=stay hb1 (Ag w _ _);obtain⟨m0,m1,m2,m3,m4,m5,m6,m7,m8,m9,m10,m11⟩:=Ap CM;obtain⟨f0,f1⟩:=cl2 CF;simp at f0 f1 m0 m1 m2 m3 m4 m5 m6 m7 m8 m9 m10 m11;have lF:=lt_of_block CF;have lM:=lt_of_block CM;have hs1:=hB1.size;clear hb1;have hn:=TyR.new2 w1 1 0 1 0;go_wp2;go_ret;obtain rfl:=Aa HR;exact⟨_,_,rfl,hn,hB1.alloc hs1 _⟩
 have n7:((code[p].toNat:Int)==7)=false:=by simp;omega
 have i7:=hop;clear hop;by_cases hop:(code[p].toNat:Int)=8
 ·have HR:Hid (R=[(1,0),(1,0)]):=by unfold Hid;rw[← hres];unfold Aag;rw[hop];simp
  clear hres;go_enter Tryz.func186,Tryz.ntmps186;go_wp2_with fail
  refine(Aa HAr _).mono ?_;rintro e w1 ⟨rfl,hb1⟩;have hB1:=(Ak w _ _).trans (hb1.mono (by simp;omega));have CF:=stay hb1 (Ah w _ _);have CM:=stay hb1 (Ag w _ _);obtain⟨m0,m1,m2,m3,m4,m5,m6,m7,m8,m9,m10,m11⟩:=Ap CM;obtain⟨f0,f1⟩:=cl2 CF;simp at f0 f1 m0 m1 m2 m3 m4 m5 m6 m7 m8 m9 m10 m11;have lF:=lt_of_block CF;have lM:=lt_of_block CM;have hs1:=hB1.size;clear hb1;have hn:=TyR.new2 w1 1 0 1 0;go_wp2;go_ret;obtain rfl:=Aa HR;exact⟨_,_,rfl,hn,hB1.alloc hs1 _⟩
 have n8:((code[p].toNat:Int)==8)=false:=by simp;omega
 have i8:=hop;clear hop;by_cases hop:(code[p].toNat:Int)=9
 ·have HR:Hid (R=[(1,0),(1,0)]):=by unfold Hid;rw[← hres];unfold Aag;rw[hop];simp
  clear hres;go_enter Tryz.func186,Tryz.ntmps186;go_wp2_with fail
  refine(Aa HAr _).mono ?_;rintro e w1 ⟨rfl,hb1⟩;have hB1:=(Ak w _ _).trans (hb1.mono (by simp;omega));have CF:=stay hb1 (Ah w _ _);have CM:=stay hb1 (Ag w _ _);obtain⟨m0,m1,m2,m3,m4,m5,m6,m7,m8,m9,m10,m11⟩:=Ap CM;obtain⟨f0,f1⟩:=cl2 CF;simp at f0 f1 m0 m1 m2 m3 m4 m5 m6 m7 m8 m9 m10 m11;have lF:=lt_of_block CF;have lM:=lt_of_block CM;have hs1:=hB1.size;clear hb1;have hn:=TyR.new2 w1 1 0 1 0;go_wp2;go_ret;obtain rfl:=Aa HR;exact⟨_,_,rfl,hn,hB1.alloc hs1 _⟩
 have n9:((code[p].toNat:Int)==9)=false:=by simp;omega
 have i9:=hop;clear hop;by_cases hop:(code[p].toNat:Int)=10
 ·have HR:Hid (R=[(1,0),(1,0)]):=by unfold Hid;rw[← hres];unfold Aag;rw[hop];simp
  clear hres;go_enter Tryz.func186,Tryz.ntmps186;go_wp2_with fail
  refine(Aa HAr _).mono ?_;rintro e w1 ⟨rfl,hb1⟩;have hB1:=(Ak w _ _).trans (hb1.mono (by simp;omega));have CF:=stay hb1 (Ah w _ _);have CM:=stay hb1 (Ag w _ _);obtain⟨m0,m1,m2,m3,m4,m5,m6,m7,m8,m9,m10,m11⟩:=Ap CM;obtain⟨f0,f1⟩:=cl2 CF;simp at f0 f1 m0 m1 m2 m3 m4 m5 m6 m7 m8 m9 m10 m11;have lF:=lt_of_block CF;have lM:=lt_of_block CM;have hs1:=hB1.size;clear hb1;have hn:=TyR.new2 w1 1 0 1 0;go_wp2;go_ret;obtain rfl:=Aa HR;exact⟨_,_,rfl,hn,hB1.alloc hs1 _⟩
 have n10:((code[p].toNat:Int)==10)=false:=by simp;omega
 have i10:=hop;clear hop;by_cases hop:(code[p].toNat:Int)=13
 ·have HR:Hid (R=[(1,0),(1,0)]):=by unfold Hid;rw[← hres];unfold Aag;rw[hop];simp
  clear hres;go_enter Tryz.func186,Tryz.ntmps186;go_wp2_with fail
  refine(Aa HAr _).mono ?_;rintro e w1 ⟨rfl,hb1⟩;have hB1:=(Ak w _ _).trans (hb1.mono (by simp;omega));have CF:=stay hb1 (Ah w _ _);have CM:=stay hb1 (Ag w _ _);obtain⟨m0,m1,m2,m3,m4,m5,m6,m7,m8,m9,m10,m11⟩:=Ap CM;obtain⟨f0,f1⟩:=cl2 CF;simp at f0 f1 m0 m1 m2 m3 m4 m5 m6 m7 m8 m9 m10 m11;have lF:=lt_of_block CF;have lM:=lt_of_block CM;have hs1:=hB1.size;clear hb1;have hn:=TyR.new2 w1 1 0 1 0;go_wp2;go_ret;obtain rfl:=Aa HR;exact⟨_,_,rfl,hn,hB1.alloc hs1 _⟩
 have n13:((code[p].toNat:Int)==13)=false:=by simp;omega
 have i13:=hop;clear hop;by_cases hop:(code[p].toNat:Int)=12
 ·have HR:Hid (R=[(1,0)]):=by unfold Hid;rw[← hres];unfold Aag;rw[hop];simp
  clear hres;go_enter Tryz.func186,Tryz.ntmps186;go_wp2_with fail
  refine(Aa HAr _).mono ?_;rintro e w1 ⟨rfl,hb1⟩;have hB1:=(Ak w _ _).trans (hb1.mono (by simp;omega));have CF:=stay hb1 (Ah w _ _);have CM:=stay hb1 (Ag w _ _);obtain⟨m0,m1,m2,m3,m4,m5,m6,m7,m8,m9,m10,m11⟩:=Ap CM;obtain⟨f0,f1⟩:=cl2 CF;simp at f0 f1 m0 m1 m2 m3 m4 m5 m6 m7 m8 m9 m10 m11;have lF:=lt_of_block CF;have lM:=lt_of_block CM;have hs1:=hB1.size;clear hb1;go_wp2_with fail
  refine(De 1 _).mono ?_;rintro e w2 ⟨a,c,rfl,ht,hb2⟩;go_wp2;go_ret;obtain rfl:=Aa HR;exact⟨a,c,rfl,ht,hB1.trans (hb2.mono hs1)⟩
 have n12:((code[p].toNat:Int)==12)=false:=by simp;omega
 have i12:=hop;clear hop;by_cases hop:(code[p].toNat:Int)=25
 ·have HR:Hid (R=[(1,0)]):=by unfold Hid;rw[← hres];unfold Aag;rw[hop];simp
  clear hres;go_enter Tryz.func186,Tryz.ntmps186;go_wp2_with fail
  refine(Aa HAr _).mono ?_;rintro e w1 ⟨rfl,hb1⟩;have hB1:=(Ak w _ _).trans (hb1.mono (by simp;omega));have CF:=stay hb1 (Ah w _ _);have CM:=stay hb1 (Ag w _ _);obtain⟨m0,m1,m2,m3,m4,m5,m6,m7,m8,m9,m10,m11⟩:=Ap CM;obtain⟨f0,f1⟩:=cl2 CF;simp at f0 f1 m0 m1 m2 m3 m4 m5 m6 m7 m8 m9 m10 m11;have lF:=lt_of_block CF;have lM:=lt_of_block CM;have hs1:=hB1.size;clear hb1;go_wp2_with fail
  refine(De 1 _).mono ?_;rintro e w2 ⟨a,c,rfl,ht,hb2⟩;go_wp2;go_ret;obtain rfl:=Aa HR;exact⟨a,c,rfl,ht,hB1.trans (hb2.mono hs1)⟩
 have n25:((code[p].toNat:Int)==25)=false:=by simp;omega
 have i25:=hop;clear hop;by_cases hop:(code[p].toNat:Int)=14
 ·have HR:Hid (R=[(3,0)]):=by unfold Hid;rw[← hres];unfold Aag;rw[hop];simp
  clear hres;go_enter Tryz.func186,Tryz.ntmps186;go_wp2_with fail
  refine(Aa HAr _).mono ?_;rintro e w1 ⟨rfl,hb1⟩;have hB1:=(Ak w _ _).trans (hb1.mono (by simp;omega));have CF:=stay hb1 (Ah w _ _);have CM:=stay hb1 (Ag w _ _);obtain⟨m0,m1,m2,m3,m4,m5,m6,m7,m8,m9,m10,m11⟩:=Ap CM;obtain⟨f0,f1⟩:=cl2 CF;simp at f0 f1 m0 m1 m2 m3 m4 m5 m6 m7 m8 m9 m10 m11;have lF:=lt_of_block CF;have lM:=lt_of_block CM;have hs1:=hB1.size;clear hb1;go_wp2_with fail
  refine(Cr 0 _).mono ?_;rintro e w2 ⟨rfl,hb2⟩;have hB2:=hB1.trans (hb2.mono hs1);have hn:=TyR.new1 w2 3 0;go_wp2;go_ret;obtain rfl:=Aa HR;exact⟨_,_,rfl,hn,hB2.alloc hB2.size _⟩
 have n14:((code[p].toNat:Int)==14)=false:=by simp;omega
 have i14:=hop;clear hop;by_cases hop:(code[p].toNat:Int)=19
 ·have HR:Hid (R=[(3,0)]):=by unfold Hid;rw[← hres];unfold Aag;rw[hop];simp
  clear hres;go_enter Tryz.func186,Tryz.ntmps186;go_wp2_with fail
  refine(Aa HAr _).mono ?_;rintro e w1 ⟨rfl,hb1⟩;have hB1:=(Ak w _ _).trans (hb1.mono (by simp;omega));have CF:=stay hb1 (Ah w _ _);have CM:=stay hb1 (Ag w _ _);obtain⟨m0,m1,m2,m3,m4,m5,m6,m7,m8,m9,m10,m11⟩:=Ap CM;obtain⟨f0,f1⟩:=cl2 CF;simp at f0 f1 m0 m1 m2 m3 m4 m5 m6 m7 m8 m9 m10 m11;have lF:=lt_of_block CF;have lM:=lt_of_block CM;have hs1:=hB1.size;clear hb1;go_wp2_with fail
  refine(Cr 0 _).mono ?_;rintro e w2 ⟨rfl,hb2⟩;have hB2:=hB1.trans (hb2.mono hs1);have hn:=TyR.new1 w2 3 0;go_wp2;go_ret;obtain rfl:=Aa HR;exact⟨_,_,rfl,hn,hB2.alloc hB2.size _⟩
 have n19:((code[p].toNat:Int)==19)=false:=by simp;omega
 have i19:=hop;clear hop;by_cases hop:(code[p].toNat:Int)=17
 ·have hq:=Aa HN1 (by rw[hop];simp);obtain⟨q,rfl⟩:=Int.eq_ofNat_of_zero_le hq.1;have hqf:q<flds.length:=by omega
  have hqi:(q:Int)<(flds.length:Int):=by omega
  have HR:Hid (R=[(3,(flds.getD q ⟨0,0,(0,0)⟩).owner)]):=by unfold Hid;rw[← hres];unfold Aag;rw[hop];simp[-List.getD_eq_getElem?_getD]
  clear hres;go_enter Tryz.func186,Tryz.ntmps186;go_wp2_with fail
  refine(Aa HAr _).mono ?_;rintro e w1 ⟨rfl,hb1⟩;have hB1:=(Ak w _ _).trans (hb1.mono (by simp;omega));have CF:=stay hb1 (Ah w _ _);have CM:=stay hb1 (Ag w _ _);obtain⟨m0,m1,m2,m3,m4,m5,m6,m7,m8,m9,m10,m11⟩:=Ap CM;obtain⟨f0,f1⟩:=cl2 CF;simp at f0 f1 m0 m1 m2 m3 m4 m5 m6 m7 m8 m9 m10 m11;have lF:=lt_of_block CF;have lM:=lt_of_block CM;have hs1:=hB1.size;clear hb1;go_wp2_with fail
  refine(Aa HFi _ ((Aa HF0).below hB1)).mono ?_;rintro e w2 ⟨va,vc,rfl,hown,hb2⟩;have hB2:=hB1.trans (hb2.mono hs1);have hs2:=hB2.size;obtain⟨g,hg,hglt,_,hcell⟩:=Ao hown (by omega);have y0:=(hcell _ (Bh flds q hqf 0 (by omega)).2).trans (Bh flds q hqf 0 (by omega)).1;have y2:=(hcell _ (Bh flds q hqf 2 (by omega)).2).trans (Bh flds q hqf 2 (by omega)).1;have y3:=(hcell _ (Bh flds q hqf 3 (by omega)).2).trans (Bh flds q hqf 3 (by omega)).1;simp at y0 y2 y3;have hfd:flds.getD q ⟨0,0,(0,0)⟩=flds[q]:=by simp[List.getD_eq_getElem?_getD,hqf]
  have hRR:=Aa HR;rw[hfd]at hRR;generalize flds[q]=fd at *;obtain⟨fo,fs,ft1,ft2⟩:=fd;simp only at y0 y2 y3 hRR;have HR2:=Ac hRR;clear hcell hown hfd hRR HR;subst hg;go_wp2_with fail
  refine(Cr fo _).mono ?_;rintro e w3 ⟨rfl,hb3⟩;have hB3:=hB2.trans (hb3.mono hs2);have hn:=TyR.new1 w3 3 fo;go_wp2;go_ret;obtain rfl:=Aa HR2;exact⟨_,_,rfl,hn,hB3.alloc hB3.size _⟩
 have n17:((code[p].toNat:Int)==17)=false:=by simp;omega
 have i17:=hop;clear hop;by_cases hop:(code[p].toNat:Int)=18
 ·have hq:=Aa HN1 (by rw[hop];simp);obtain⟨q,rfl⟩:=Int.eq_ofNat_of_zero_le hq.1;have hqf:q<flds.length:=by omega
  have hqi:(q:Int)<(flds.length:Int):=by omega
  have HR:Hid (R=[(3,(flds.getD q ⟨0,0,(0,0)⟩).owner),(flds.getD q ⟨0,0,(0,0)⟩).t]):=by unfold Hid;rw[← hres];unfold Aag;rw[hop];simp[-List.getD_eq_getElem?_getD]
  clear hres;go_enter Tryz.func186,Tryz.ntmps186;go_wp2_with fail
  refine(Aa HAr _).mono ?_;rintro e w1 ⟨rfl,hb1⟩;have hB1:=(Ak w _ _).trans (hb1.mono (by simp;omega));have CF:=stay hb1 (Ah w _ _);have CM:=stay hb1 (Ag w _ _);obtain⟨m0,m1,m2,m3,m4,m5,m6,m7,m8,m9,m10,m11⟩:=Ap CM;obtain⟨f0,f1⟩:=cl2 CF;simp at f0 f1 m0 m1 m2 m3 m4 m5 m6 m7 m8 m9 m10 m11;have lF:=lt_of_block CF;have lM:=lt_of_block CM;have hs1:=hB1.size;clear hb1;go_wp2_with fail
  refine(Aa HFi _ ((Aa HF0).below hB1)).mono ?_;rintro e w2 ⟨va,vc,rfl,hown,hb2⟩;have hB2:=hB1.trans (hb2.mono hs1);have hs2:=hB2.size;obtain⟨g,hg,hglt,_,hcell⟩:=Ao hown (by omega);have y0:=(hcell _ (Bh flds q hqf 0 (by omega)).2).trans (Bh flds q hqf 0 (by omega)).1;have y2:=(hcell _ (Bh flds q hqf 2 (by omega)).2).trans (Bh flds q hqf 2 (by omega)).1;have y3:=(hcell _ (Bh flds q hqf 3 (by omega)).2).trans (Bh flds q hqf 3 (by omega)).1;simp at y0 y2 y3;have hfd:flds.getD q ⟨0,0,(0,0)⟩=flds[q]:=by simp[List.getD_eq_getElem?_getD,hqf]
  have hRR:=Aa HR;rw[hfd]at hRR;generalize flds[q]=fd at *;obtain⟨fo,fs,ft1,ft2⟩:=fd;simp only at y0 y2 y3 hRR;have HR2:=Ac hRR;clear hcell hown hfd hRR HR;subst hg;have hRf:=fun w=>Cr fo w;have HRf:=Ac hRf;clear hRf;go_wp2
  go_region_held3 (fun w'=>w'.cell? ⟨g,q*4,none⟩=some (.int .i64 fo)∧w'.cell? ⟨g,q*4+2,none⟩=some (.int .i64 ft1)∧w'.cell? ⟨g,q*4+3,none⟩=some (.int .i64 ft2))
   (first | exact⟨y0,y2,y3⟩ | exact⟨QC hb7 hglt y0,QC hb7 hglt y2,QC hb7 hglt y3⟩ | exact⟨(QA (QL hb7 hglt) (QC hb7 hglt y0)),(QA (QL hb7 hglt) (QC hb7 hglt y2)),(QA (QL hb7 hglt) (QC hb7 hglt y3))⟩)
   (first | (go_at_call 138;refine(Aa HRf _).mono ?_;rintro e w7 ⟨rfl,hb7⟩))
  have hB7:=hB2.drew.trans (hb7.mono hs2);have hn:=TyR.new2 w7 3 fo ft1 ft2;go_wp2;go_ret;obtain rfl:=Aa HR2;exact⟨_,_,rfl,hn,hB7.alloc hB7.size _⟩
 have n18:((code[p].toNat:Int)==18)=false:=by simp;omega
 have i18:=hop;clear hop;by_cases hop:(code[p].toNat:Int)=20
 ·have hq:=Aa HN2 (by rw[hop];simp);obtain⟨q,rfl⟩:=Int.eq_ofNat_of_zero_le hq.1;have hqm:q<ms.length:=by omega
  have hqi:(q:Int)<(ms.length:Int):=by omega
  have HR:Hid (R=(ms.getD q Adn).1.m.params):=by unfold Hid;rw[← hres];unfold Aag;rw[hop];simp[-List.getD_eq_getElem?_getD,Ko]
  clear hres;go_enter Tryz.func186,Tryz.ntmps186;go_wp2_with fail
  refine(Aa HAr _).mono ?_;rintro e w1 ⟨rfl,hb1⟩;have hB1:=(Ak w _ _).trans (hb1.mono (by simp;omega));have CF:=stay hb1 (Ah w _ _);have CM:=stay hb1 (Ag w _ _);obtain⟨m0,m1,m2,m3,m4,m5,m6,m7,m8,m9,m10,m11⟩:=Ap CM;obtain⟨f0,f1⟩:=cl2 CF;simp at f0 f1 m0 m1 m2 m3 m4 m5 m6 m7 m8 m9 m10 m11;have lF:=lt_of_block CF;have lM:=lt_of_block CM;have hs1:=hB1.size;clear hb1;obtain⟨o,g,hg,hglt,hrow,his⟩:=RFl.mth ((Aa HF0).below hB1) hqm;simp only at hg hrow his hqm;replace hrow:=Ft hrow;have hgd:ms.getD q Adn=ms[q]:=by simp[List.getD_eq_getElem?_getD,hqm]
  have hRR:=Aa HR;rw[hgd]at hRR;have hpl:=Aa HPL _ (List.getElem_mem hqm);generalize ms[q]=md at *;obtain⟨md,mu⟩:=md;simp only at his hRR hpl;obtain⟨e1,-,e3,e4,-,-,-,-,e9,hps,-,-,-,-,-⟩:=his;have hres':md.m.result=(o.r1,o.r2):=by rw[e3,e4]
  generalize md.m.params=ps at *;obtain⟨ocl,onm,opa,opl,opc,or1,or2,olo,ost,ocode,oha,ohl,ohc,oma,oml,omc,omAt,ofin⟩:=o;simp only at e9 hps hRR hrow;subst e9;obtain⟨y0,y1,y2,y3,y4,y5,y6,y7,y8,y9,y10,y11⟩:=hrow;have HR2:=Ac hRR;clear hgd hRR HR hres' e1 e3 e4;subst hg;go_wp2;go_ret;obtain rfl:=Aa HR2;exact⟨_,_,rfl,TyR.of_tys hps,hB1⟩
 have n20:((code[p].toNat:Int)==20)=false:=by simp;omega
 have i20:=hop;clear hop;by_cases hop:(code[p].toNat:Int)=21
 ·have hq:=Aa HN2 (by rw[hop];simp);obtain⟨q,rfl⟩:=Int.eq_ofNat_of_zero_le hq.1;have hqm:q<ms.length:=by omega
  have hqi:(q:Int)<(ms.length:Int):=by omega
  have HR:Hid (R=(3,(ms.getD q Adn).1.m.cl)::(ms.getD q Adn).1.m.params):=by unfold Hid;rw[← hres];unfold Aag;rw[hop];simp[-List.getD_eq_getElem?_getD,Ko]
  clear hres;go_enter Tryz.func186,Tryz.ntmps186;go_wp2_with fail
  refine(Aa HAr _).mono ?_;rintro e w1 ⟨rfl,hb1⟩;have hB1:=(Ak w _ _).trans (hb1.mono (by simp;omega));have CF:=stay hb1 (Ah w _ _);have CM:=stay hb1 (Ag w _ _);obtain⟨m0,m1,m2,m3,m4,m5,m6,m7,m8,m9,m10,m11⟩:=Ap CM;obtain⟨f0,f1⟩:=cl2 CF;simp at f0 f1 m0 m1 m2 m3 m4 m5 m6 m7 m8 m9 m10 m11;have lF:=lt_of_block CF;have lM:=lt_of_block CM;have hs1:=hB1.size;clear hb1;obtain⟨o,g,hg,hglt,hrow,his⟩:=RFl.mth ((Aa HF0).below hB1) hqm;simp only at hg hrow his hqm;replace hrow:=Ft hrow;have hgd:ms.getD q Adn=ms[q]:=by simp[List.getD_eq_getElem?_getD,hqm]
  have hRR:=Aa HR;rw[hgd]at hRR;have hpl:=Aa HPL _ (List.getElem_mem hqm);generalize ms[q]=md at *;obtain⟨md,mu⟩:=md;simp only at his hRR hpl;obtain⟨e1,-,e3,e4,-,-,-,-,e9,hps,-,-,-,-,-⟩:=his;have hres':md.m.result=(o.r1,o.r2):=by rw[e3,e4]
  rw[← e1]at hRR;generalize md.m.params=ps at *;obtain⟨ocl,onm,opa,opl,opc,or1,or2,olo,ost,ocode,oha,ohl,ohc,oma,oml,omc,omAt,ofin⟩:=o;simp only at e9 hps hRR hrow;subst e9;obtain⟨y0,y1,y2,y3,y4,y5,y6,y7,y8,y9,y10,y11⟩:=hrow;have HR2:=Ac hRR;clear hgd hRR HR hres' e1 e3 e4;subst hg;go_wp2_with fail
  refine(Cr ocl _).mono ?_;rintro e w2 ⟨rfl,hb2⟩;have hB2:=hB1.trans (hb2.mono hs1);have hs2:=hB2.size;have CF2:=stay hb2 CF;have f1':=Ab CF2 1;have lF2:=lt_of_block CF2;simp at f1';have hg2:g<w2.heap.size:=Nat.lt_of_lt_of_le hglt hb2.size;have y2':=(hb2.cell (p:=⟨g,q*12+2,none⟩) hglt).trans y2;have hbl2:Below w2.heap.size w2 (w2.alloc (O7 3 ocl)):=QN _;have hps2:=((TyR.of_tys hps).below hb2).below hbl2;have hown2:(w2.alloc (O7 3 ocl)).ownsRow w2.heap.size 39 2 (.slice (some ⟨w2.heap.size,0,none⟩) 1 1) ([((3:Int),ocl)]:List (Int × Int)).length (Am [((3:Int),ocl)]) :=
   ⟨rfl,.inr ⟨w2.heap.size,1,_,rfl,Nat.le_refl _,Ad _ _,by simp,by unfold maxLen;omega,rfl,rfl⟩⟩
  clear hb2 y0 y1 y2 y3 y4 y5 y6 y7 y8 y9 y10 y11;go_wp2_with (at_builtin;refine Bw rfl _ _ rfl w2.heap.size _ [(3,ocl)] ps opa ps.length opc rfl hown2 rfl hps2 (by simp;omega) (by simp) ?_)
  intro v' w3 hown3 hgrow;obtain⟨va,vc,rfl⟩:=Af hown3;have hB3:=(hB2.alloc hs2 (O7 3 ocl)).grown hgrow (by simp;omega) (fun j hj=>by have:=(hown2.lt j hj).1;omega);clear hgrow;go_wp2;go_ret;obtain rfl:=Aa HR2;exact⟨va,vc,by simp,Bl (by simpa using hown3) (by simp),hB3⟩
 have n21:((code[p].toNat:Int)==21)=false:=by simp;omega
 have i21:=hop;clear hop;by_cases hop:(code[p].toNat:Int)=22
 ·have HR:Hid (R=Aau (r1,r2)):=by unfold Hid;rw[← hres];unfold Aag;rw[hop];simp
  clear hres;go_enter Tryz.func186,Tryz.ntmps186;go_wp2_with fail
  refine(Aa HAr _).mono ?_;rintro e w1 ⟨rfl,hb1⟩;have hB1:=(Ak w _ _).trans (hb1.mono (by simp;omega));have CF:=stay hb1 (Ah w _ _);have CM:=stay hb1 (Ag w _ _);obtain⟨m0,m1,m2,m3,m4,m5,m6,m7,m8,m9,m10,m11⟩:=Ap CM;obtain⟨f0,f1⟩:=cl2 CF;simp at f0 f1 m0 m1 m2 m3 m4 m5 m6 m7 m8 m9 m10 m11;have lF:=lt_of_block CF;have lM:=lt_of_block CM;have hs1:=hB1.size;clear hb1;go_wp2_with fail
  refine(Aa HGi _).mono ?_;rintro e w2 ⟨a,c,rfl,ht,hb2⟩;go_wp2;go_ret;obtain rfl:=Aa HR;exact⟨a,c,rfl,ht,hB1.trans (hb2.mono hs1)⟩
 have n22:((code[p].toNat:Int)==22)=false:=by simp;omega
 have i22:=hop;clear hop;by_cases hop:(code[p].toNat:Int)=23
 ·have HR:Hid (R=[(3,1)]):=by unfold Hid;rw[← hres];unfold Aag;rw[hop];simp
  clear hres;go_enter Tryz.func186,Tryz.ntmps186;go_wp2_with fail
  refine(Aa HAr _).mono ?_;rintro e w1 ⟨rfl,hb1⟩;have hB1:=(Ak w _ _).trans (hb1.mono (by simp;omega));have CF:=stay hb1 (Ah w _ _);have CM:=stay hb1 (Ag w _ _);obtain⟨m0,m1,m2,m3,m4,m5,m6,m7,m8,m9,m10,m11⟩:=Ap CM;obtain⟨f0,f1⟩:=cl2 CF;simp at f0 f1 m0 m1 m2 m3 m4 m5 m6 m7 m8 m9 m10 m11;have lF:=lt_of_block CF;have lM:=lt_of_block CM;have hs1:=hB1.size;clear hb1;go_wp2_with fail
  refine(Cr 1 _).mono ?_;rintro e w2 ⟨rfl,hb2⟩;have hB2:=hB1.trans (hb2.mono hs1);have hn:=TyR.new1 w2 3 1;go_wp2;go_ret;obtain rfl:=Aa HR;exact⟨_,_,rfl,hn,hB2.alloc hB2.size _⟩
 have n23:((code[p].toNat:Int)==23)=false:=by simp;omega
 have i23:=hop;clear hop;have HR:Hid (R=[]):=by
  unfold Hid;rw[← hres];unfold Aag;rw[if_neg (by omega),if_neg (by omega),if_neg (by omega),if_neg (by omega),if_neg (by omega),if_neg (by omega),if_neg (by omega),if_neg (by omega),if_neg (by omega)]
 clear hres i7 i8 i9 i10 i13 i12 i25 i14 i19 i17 i18 i20 i21 i22 i23;go_enter Tryz.func186,Tryz.ntmps186;go_wp2_with fail
 refine(Aa HAr _).mono ?_;rintro e w1 ⟨rfl,hb1⟩;have hB1:=(Ak w _ _).trans (hb1.mono (by simp;omega));have CF:=stay hb1 (Ah w _ _);have CM:=stay hb1 (Ag w _ _);obtain⟨m0,m1,m2,m3,m4,m5,m6,m7,m8,m9,m10,m11⟩:=Ap CM;obtain⟨f0,f1⟩:=cl2 CF;simp at f0 f1 m0 m1 m2 m3 m4 m5 m6 m7 m8 m9 m10 m11;have lF:=lt_of_block CF;have lM:=lt_of_block CM;have hs1:=hB1.size;clear hb1;go_wp2;go_ret;obtain rfl:=Aa HR;exact⟨none,0,rfl,TyR.nil _,hB1⟩
theorem Px (f:RFl) (m:RMV) (p:Nat) (w:World) (hf:f.ok w) (hp:p<m.code.size) (hs:m.code.size≤100000) (hpl:∀ x∈f.ms,x.1.m.params.length≤1000)
  (hN1:(An m.code).getD p 0=17∨(An m.code).getD p 0=18→0≤Rf.at' m.code.data.toList ((p:Int)+1)∧Rf.at' m.code.data.toList ((p:Int)+1)<(f.fields.length:Int))
  (hN2:(An m.code).getD p 0=20∨(An m.code).getD p 0=21→0≤Rf.at' m.code.data.toList ((p:Int)+1)∧Rf.at' m.code.data.toList ((p:Int)+1)<(f.ms.length:Int)) :
  Calls Tryz.prog 213 #[f.val,m.val,.int .i64 (p:Int)] w fun e w' =>
   ∃ a c,e=.returned (.slice a (Aal f.fields (f.ms.map fun x=>x.1.m) ((An m.code).getD p 0) (Rf.at' m.code.data.toList ((p:Int)+1))).length c) ∧
    TyR w' (.slice a (Aal f.fields (f.ms.map fun x=>x.1.m) ((An m.code).getD p 0) (Rf.at' m.code.data.toList ((p:Int)+1))).length c) (Aal f.fields (f.ms.map fun x=>x.1.m) ((An m.code).getD p 0) (Rf.at' m.code.data.toList ((p:Int)+1)))∧Below w.heap.size w w':=by
 rw[Dx _ _ hp]at hN1 hN2 ⊢;have hAr:=fun w=>Er m p w hp hs;have hFi:=fun w (h:f.ok w)=>Gw f.a1 f.a2 f.c1 f.ms.length f.c2 f.bb f.l w h.1 h.2.1 h.2.2.2.1 h.2.2.2.2.1;have hF0:=hf;obtain⟨fa1,fc1,fa2,fc2,bb,l,ms⟩:=f;obtain⟨cl,nm,pa,pl,pc,r1,r2,lo,st,code,ha,hl,hc,ma,ml,mc,mAt,fin⟩:=m;simp only[RMV.val,RFl.val]at hp hs hAr hFi hN1 hN2 hpl ⊢;have hfe:(RFl.mk fa1 fc1 fa2 fc2 bb l ms).fields=Rf.fieldsTo (Al l) (l.map Prod.fst) (l.length-7):=rfl;rw[← hfe]at hFi;generalize (RFl.mk fa1 fc1 fa2 fc2 bb l ms).fields=flds at *;generalize Rf.at' code.data.toList ((p:Int)+1)=n at *;generalize hres:Aal flds (ms.map fun x=>x.1.m) (code[p].toNat:Int) n=R;have hp':(p:Int)<(code.size:Int):=by omega
 have hwb:∀ c:UInt8,IntKind.i64.wrap (c.toNat:Int)=(c.toNat:Int):=fun c=>Bd _ (by omega) (by have:=c.toNat_lt;omega);have HAr:=Ac hAr;have HFi:=Ac hFi;have HF0:=Ac hF0;have HN1:=Ac hN1;have HN2:=Ac hN2;have HPL:=Ac hpl;clear hAr hFi hF0 hf hN1 hN2 hpl hfe;by_cases hop:(code[p].toNat:Int)=0
 ·have HR:Hid (R=[(1,0)]):=by unfold Hid;rw[← hres];unfold Aal;rw[hop];simp
  clear hres;go_enter Tryz.func213,Tryz.ntmps213;go_wp2_with fail
  refine(Aa HAr _).mono ?_;rintro e w1 ⟨rfl,hb1⟩;have hB1:=(Ak w _ _).trans (hb1.mono (by simp;omega));have CF:=stay hb1 (Ah w _ _);have CM:=stay hb1 (Ag w _ _);obtain⟨m0,m1,m2,m3,m4,m5,m6,m7,m8,m9,m10,m11⟩:=Ap CM;obtain⟨f0,f1⟩:=cl2 CF;simp at f0 f1 m0 m1 m2 m3 m4 m5 m6 m7 m8 m9 m10 m11;have lF:=lt_of_block CF;have lM:=lt_of_block CM;have hs1:=hB1.size;clear hb1;go_wp2_with fail
  refine(De 1 _).mono ?_;rintro e w2 ⟨a,c,rfl,ht,hb2⟩;go_wp2;go_ret;obtain rfl:=Aa HR;exact⟨a,c,rfl,ht,hB1.trans (hb2.mono hs1)⟩
 have n0:((code[p].toNat:Int)==0)=false:=by simp;omega
 have i0:=hop;clear hop;by_cases hop:(code[p].toNat:Int)=7
 ·have HR:Hid (R=[(1,0)]):=by unfold Hid;rw[← hres];unfold Aal;rw[hop];simp
  clear hres;go_enter Tryz.func213,Tryz.ntmps213;go_wp2_with fail
  refine(Aa HAr _).mono ?_;rintro e w1 ⟨rfl,hb1⟩;have hB1:=(Ak w _ _).trans (hb1.mono (by simp;omega));have CF:=stay hb1 (Ah w _ _);have CM:=stay hb1 (Ag w _ _);obtain⟨m0,m1,m2,m3,m4,m5,m6,m7,m8,m9,m10,m11⟩:=Ap CM;obtain⟨f0,f1⟩:=cl2 CF;simp at f0 f1 m0 m1 m2 m3 m4 m5 m6 m7 m8 m9 m10 m11;have lF:=lt_of_block CF;have lM:=lt_of_block CM;have hs1:=hB1.size;clear hb1;go_wp2_with fail
  refine(De 1 _).mono ?_;rintro e w2 ⟨a,c,rfl,ht,hb2⟩;go_wp2;go_ret;obtain rfl:=Aa HR;exact⟨a,c,rfl,ht,hB1.trans (hb2.mono hs1)⟩
 have n7:((code[p].toNat:Int)==7)=false:=by simp;omega
 have i7:=hop;clear hop;by_cases hop:(code[p].toNat:Int)=8
 ·have HR:Hid (R=[(1,0)]):=by unfold Hid;rw[← hres];unfold Aal;rw[hop];simp
  clear hres;go_enter Tryz.func213,Tryz.ntmps213;go_wp2_with fail
  refine(Aa HAr _).mono ?_;rintro e w1 ⟨rfl,hb1⟩;have hB1:=(Ak w _ _).trans (hb1.mono (by simp;omega));have CF:=stay hb1 (Ah w _ _);have CM:=stay hb1 (Ag w _ _);obtain⟨m0,m1,m2,m3,m4,m5,m6,m7,m8,m9,m10,m11⟩:=Ap CM;obtain⟨f0,f1⟩:=cl2 CF;simp at f0 f1 m0 m1 m2 m3 m4 m5 m6 m7 m8 m9 m10 m11;have lF:=lt_of_block CF;have lM:=lt_of_block CM;have hs1:=hB1.size;clear hb1;go_wp2_with fail
  refine(De 1 _).mono ?_;rintro e w2 ⟨a,c,rfl,ht,hb2⟩;go_wp2;go_ret;obtain rfl:=Aa HR;exact⟨a,c,rfl,ht,hB1.trans (hb2.mono hs1)⟩
 have n8:((code[p].toNat:Int)==8)=false:=by simp;omega
 have i8:=hop;clear hop;by_cases hop:(code[p].toNat:Int)=9
 ·have HR:Hid (R=[(1,0)]):=by unfold Hid;rw[← hres];unfold Aal;rw[hop];simp
  clear hres;go_enter Tryz.func213,Tryz.ntmps213;go_wp2_with fail
  refine(Aa HAr _).mono ?_;rintro e w1 ⟨rfl,hb1⟩;have hB1:=(Ak w _ _).trans (hb1.mono (by simp;omega));have CF:=stay hb1 (Ah w _ _);have CM:=stay hb1 (Ag w _ _);obtain⟨m0,m1,m2,m3,m4,m5,m6,m7,m8,m9,m10,m11⟩:=Ap CM;obtain⟨f0,f1⟩:=cl2 CF;simp at f0 f1 m0 m1 m2 m3 m4 m5 m6 m7 m8 m9 m10 m11;have lF:=lt_of_block CF;have lM:=lt_of_block CM;have hs1:=hB1.size;clear hb1;go_wp2_with fail
  refine(De 1 _).mono ?_;rintro e w2 ⟨a,c,rfl,ht,hb2⟩;go_wp2;go_ret;obtain rfl:=Aa HR;exact⟨a,c,rfl,ht,hB1.trans (hb2.mono hs1)⟩
 have n9:((code[p].toNat:Int)==9)=false:=by simp;omega
 have i9:=hop;clear hop;by_cases hop:(code[p].toNat:Int)=10
 ·have HR:Hid (R=[(1,0)]):=by unfold Hid;rw[← hres];unfold Aal;rw[hop];simp
  clear hres;go_enter Tryz.func213,Tryz.ntmps213;go_wp2_with fail
  refine(Aa HAr _).mono ?_;rintro e w1 ⟨rfl,hb1⟩;have hB1:=(Ak w _ _).trans (hb1.mono (by simp;omega));have CF:=stay hb1 (Ah w _ _);have CM:=stay hb1 (Ag w _ _);obtain⟨m0,m1,m2,m3,m4,m5,m6,m7,m8,m9,m10,m11⟩:=Ap CM;obtain⟨f0,f1⟩:=cl2 CF;simp at f0 f1 m0 m1 m2 m3 m4 m5 m6 m7 m8 m9 m10 m11;have lF:=lt_of_block CF;have lM:=lt_of_block CM;have hs1:=hB1.size;clear hb1;go_wp2_with fail
  refine(De 1 _).mono ?_;rintro e w2 ⟨a,c,rfl,ht,hb2⟩;go_wp2;go_ret;obtain rfl:=Aa HR;exact⟨a,c,rfl,ht,hB1.trans (hb2.mono hs1)⟩
 have n10:((code[p].toNat:Int)==10)=false:=by simp;omega
 have i10:=hop;clear hop;by_cases hop:(code[p].toNat:Int)=24
 ·have HR:Hid (R=[(1,0)]):=by unfold Hid;rw[← hres];unfold Aal;rw[hop];simp
  clear hres;go_enter Tryz.func213,Tryz.ntmps213;go_wp2_with fail
  refine(Aa HAr _).mono ?_;rintro e w1 ⟨rfl,hb1⟩;have hB1:=(Ak w _ _).trans (hb1.mono (by simp;omega));have CF:=stay hb1 (Ah w _ _);have CM:=stay hb1 (Ag w _ _);obtain⟨m0,m1,m2,m3,m4,m5,m6,m7,m8,m9,m10,m11⟩:=Ap CM;obtain⟨f0,f1⟩:=cl2 CF;simp at f0 f1 m0 m1 m2 m3 m4 m5 m6 m7 m8 m9 m10 m11;have lF:=lt_of_block CF;have lM:=lt_of_block CM;have hs1:=hB1.size;clear hb1;go_wp2_with fail
  refine(De 1 _).mono ?_;rintro e w2 ⟨a,c,rfl,ht,hb2⟩;go_wp2;go_ret;obtain rfl:=Aa HR;exact⟨a,c,rfl,ht,hB1.trans (hb2.mono hs1)⟩
 have n24:((code[p].toNat:Int)==24)=false:=by simp;omega
 have i24:=hop;clear hop;by_cases hop:(code[p].toNat:Int)=1
 ·have HR:Hid (R=[(2,0)]):=by unfold Hid;rw[← hres];unfold Aal;rw[hop];simp
  clear hres;go_enter Tryz.func213,Tryz.ntmps213;go_wp2_with fail
  refine(Aa HAr _).mono ?_;rintro e w1 ⟨rfl,hb1⟩;have hB1:=(Ak w _ _).trans (hb1.mono (by simp;omega));have CF:=stay hb1 (Ah w _ _);have CM:=stay hb1 (Ag w _ _);obtain⟨m0,m1,m2,m3,m4,m5,m6,m7,m8,m9,m10,m11⟩:=Ap CM;obtain⟨f0,f1⟩:=cl2 CF;simp at f0 f1 m0 m1 m2 m3 m4 m5 m6 m7 m8 m9 m10 m11;have lF:=lt_of_block CF;have lM:=lt_of_block CM;have hs1:=hB1.size;clear hb1;go_wp2_with fail
  refine(De 2 _).mono ?_;rintro e w2 ⟨a,c,rfl,ht,hb2⟩;go_wp2;go_ret;obtain rfl:=Aa HR;exact⟨a,c,rfl,ht,hB1.trans (hb2.mono hs1)⟩
 have n1:((code[p].toNat:Int)==1)=false:=by simp;omega
 have i1:=hop;clear hop;by_cases hop:(code[p].toNat:Int)=17
 ·have hq:=Aa HN1 (by rw[hop];simp);obtain⟨q,rfl⟩:=Int.eq_ofNat_of_zero_le hq.1;have hqf:q<flds.length:=by omega
  have hqi:(q:Int)<(flds.length:Int):=by omega
  have HR:Hid (R=[(flds.getD q ⟨0,0,(0,0)⟩).t]):=by unfold Hid;rw[← hres];unfold Aal;rw[hop];simp[-List.getD_eq_getElem?_getD]
  clear hres;go_enter Tryz.func213,Tryz.ntmps213;go_wp2_with fail
  refine(Aa HAr _).mono ?_;rintro e w1 ⟨rfl,hb1⟩;have hB1:=(Ak w _ _).trans (hb1.mono (by simp;omega));have CF:=stay hb1 (Ah w _ _);have CM:=stay hb1 (Ag w _ _);obtain⟨m0,m1,m2,m3,m4,m5,m6,m7,m8,m9,m10,m11⟩:=Ap CM;obtain⟨f0,f1⟩:=cl2 CF;simp at f0 f1 m0 m1 m2 m3 m4 m5 m6 m7 m8 m9 m10 m11;have lF:=lt_of_block CF;have lM:=lt_of_block CM;have hs1:=hB1.size;clear hb1;go_wp2_with fail
  refine(Aa HFi _ ((Aa HF0).below hB1)).mono ?_;rintro e w2 ⟨va,vc,rfl,hown,hb2⟩;have hB2:=hB1.trans (hb2.mono hs1);have hs2:=hB2.size;obtain⟨g,hg,hglt,_,hcell⟩:=Ao hown (by omega);have y0:=(hcell _ (Bh flds q hqf 0 (by omega)).2).trans (Bh flds q hqf 0 (by omega)).1;have y2:=(hcell _ (Bh flds q hqf 2 (by omega)).2).trans (Bh flds q hqf 2 (by omega)).1;have y3:=(hcell _ (Bh flds q hqf 3 (by omega)).2).trans (Bh flds q hqf 3 (by omega)).1;simp at y0 y2 y3;have hfd:flds.getD q ⟨0,0,(0,0)⟩=flds[q]:=by simp[List.getD_eq_getElem?_getD,hqf]
  have hRR:=Aa HR;rw[hfd]at hRR;generalize flds[q]=fd at *;obtain⟨fo,fs,ft1,ft2⟩:=fd;simp only at y0 y2 y3 hRR;have HR2:=Ac hRR;clear hcell hown hfd hRR HR;subst hg;have hn:=TyR.new1 w2 ft1 ft2;go_wp2;go_ret;obtain rfl:=Aa HR2;exact⟨_,_,rfl,hn,hB2.alloc hs2 _⟩
 have n17:((code[p].toNat:Int)==17)=false:=by simp;omega
 have i17:=hop;clear hop;by_cases hop:(code[p].toNat:Int)=19
 ·have HR:Hid (R=[(3,n)]):=by unfold Hid;rw[← hres];unfold Aal;rw[hop];simp
  clear hres;go_enter Tryz.func213,Tryz.ntmps213;go_wp2_with fail
  refine(Aa HAr _).mono ?_;rintro e w1 ⟨rfl,hb1⟩;have hB1:=(Ak w _ _).trans (hb1.mono (by simp;omega));have CF:=stay hb1 (Ah w _ _);have CM:=stay hb1 (Ag w _ _);obtain⟨m0,m1,m2,m3,m4,m5,m6,m7,m8,m9,m10,m11⟩:=Ap CM;obtain⟨f0,f1⟩:=cl2 CF;simp at f0 f1 m0 m1 m2 m3 m4 m5 m6 m7 m8 m9 m10 m11;have lF:=lt_of_block CF;have lM:=lt_of_block CM;have hs1:=hB1.size;clear hb1;go_wp2_with fail
  refine(Cr n _).mono ?_;rintro e w2 ⟨rfl,hb2⟩;have hB2:=hB1.trans (hb2.mono hs1);have hn:=TyR.new1 w2 3 n;go_wp2;go_ret;obtain rfl:=Aa HR;exact⟨_,_,rfl,hn,hB2.alloc hB2.size _⟩
 have n19:((code[p].toNat:Int)==19)=false:=by simp;omega
 have i19:=hop;clear hop;by_cases hop:(code[p].toNat:Int)=20
 ·have hq:=Aa HN2 (by rw[hop];simp);obtain⟨q,rfl⟩:=Int.eq_ofNat_of_zero_le hq.1;have hqm:q<ms.length:=by omega
  have hqi:(q:Int)<(ms.length:Int):=by omega
  have HR:Hid (R=Aau (ms.getD q Adn).1.m.result):=by unfold Hid;rw[← hres];unfold Aal;rw[hop];simp[-List.getD_eq_getElem?_getD,Ko]
  clear hres;go_enter Tryz.func213,Tryz.ntmps213;go_wp2_with fail
  refine(Aa HAr _).mono ?_;rintro e w1 ⟨rfl,hb1⟩;have hB1:=(Ak w _ _).trans (hb1.mono (by simp;omega));have CF:=stay hb1 (Ah w _ _);have CM:=stay hb1 (Ag w _ _);obtain⟨m0,m1,m2,m3,m4,m5,m6,m7,m8,m9,m10,m11⟩:=Ap CM;obtain⟨f0,f1⟩:=cl2 CF;simp at f0 f1 m0 m1 m2 m3 m4 m5 m6 m7 m8 m9 m10 m11;have lF:=lt_of_block CF;have lM:=lt_of_block CM;have hs1:=hB1.size;clear hb1;obtain⟨o,g,hg,hglt,hrow,his⟩:=RFl.mth ((Aa HF0).below hB1) hqm;simp only at hg hrow his hqm;replace hrow:=Ft hrow;have hgd:ms.getD q Adn=ms[q]:=by simp[List.getD_eq_getElem?_getD,hqm]
  have hRR:=Aa HR;rw[hgd]at hRR;have hpl:=Aa HPL _ (List.getElem_mem hqm);generalize ms[q]=md at *;obtain⟨md,mu⟩:=md;simp only at his hRR hpl;obtain⟨e1,-,e3,e4,-,-,-,-,e9,hps,-,-,-,-,-⟩:=his;have hres':md.m.result=(o.r1,o.r2):=by rw[e3,e4]
  rw[hres']at hRR;generalize md.m.params=ps at *;obtain⟨ocl,onm,opa,opl,opc,or1,or2,olo,ost,ocode,oha,ohl,ohc,oma,oml,omc,omAt,ofin⟩:=o;simp only at e9 hps hRR hrow;subst e9;obtain⟨y0,y1,y2,y3,y4,y5,y6,y7,y8,y9,y10,y11⟩:=hrow;have HR2:=Ac hRR;clear hgd hRR HR hres' e1 e3 e4;subst hg;have hgi:=fun w=>Hx ⟨ocl,onm,opa,ps.length,opc,or1,or2,olo,ost,ocode,oha,ohl,ohc,oma,oml,omc,omAt,ofin⟩ w;simp only[RMV.val]at hgi;have HGI:=Ac hgi;clear hgi;go_wp2_with fail
  refine(Aa HGI _).mono ?_;rintro e w2 ⟨a,c,rfl,ht,hb2⟩;go_wp2;go_ret;obtain rfl:=Aa HR2;exact⟨a,c,rfl,ht,hB1.trans (hb2.mono hs1)⟩
 have n20:((code[p].toNat:Int)==20)=false:=by simp;omega
 have i20:=hop;clear hop;by_cases hop:(code[p].toNat:Int)=21
 ·have hq:=Aa HN2 (by rw[hop];simp);obtain⟨q,rfl⟩:=Int.eq_ofNat_of_zero_le hq.1;have hqm:q<ms.length:=by omega
  have hqi:(q:Int)<(ms.length:Int):=by omega
  have HR:Hid (R=Aau (ms.getD q Adn).1.m.result):=by unfold Hid;rw[← hres];unfold Aal;rw[hop];simp[-List.getD_eq_getElem?_getD,Ko]
  clear hres;go_enter Tryz.func213,Tryz.ntmps213;go_wp2_with fail
  refine(Aa HAr _).mono ?_;rintro e w1 ⟨rfl,hb1⟩;have hB1:=(Ak w _ _).trans (hb1.mono (by simp;omega));have CF:=stay hb1 (Ah w _ _);have CM:=stay hb1 (Ag w _ _);obtain⟨m0,m1,m2,m3,m4,m5,m6,m7,m8,m9,m10,m11⟩:=Ap CM;obtain⟨f0,f1⟩:=cl2 CF;simp at f0 f1 m0 m1 m2 m3 m4 m5 m6 m7 m8 m9 m10 m11;have lF:=lt_of_block CF;have lM:=lt_of_block CM;have hs1:=hB1.size;clear hb1;obtain⟨o,g,hg,hglt,hrow,his⟩:=RFl.mth ((Aa HF0).below hB1) hqm;simp only at hg hrow his hqm;replace hrow:=Ft hrow;have hgd:ms.getD q Adn=ms[q]:=by simp[List.getD_eq_getElem?_getD,hqm]
  have hRR:=Aa HR;rw[hgd]at hRR;have hpl:=Aa HPL _ (List.getElem_mem hqm);generalize ms[q]=md at *;obtain⟨md,mu⟩:=md;simp only at his hRR hpl;obtain⟨e1,-,e3,e4,-,-,-,-,e9,hps,-,-,-,-,-⟩:=his;have hres':md.m.result=(o.r1,o.r2):=by rw[e3,e4]
  rw[hres']at hRR;generalize md.m.params=ps at *;obtain⟨ocl,onm,opa,opl,opc,or1,or2,olo,ost,ocode,oha,ohl,ohc,oma,oml,omc,omAt,ofin⟩:=o;simp only at e9 hps hRR hrow;subst e9;obtain⟨y0,y1,y2,y3,y4,y5,y6,y7,y8,y9,y10,y11⟩:=hrow;have HR2:=Ac hRR;clear hgd hRR HR hres' e1 e3 e4;subst hg;have hgi:=fun w=>Hx ⟨ocl,onm,opa,ps.length,opc,or1,or2,olo,ost,ocode,oha,ohl,ohc,oma,oml,omc,omAt,ofin⟩ w;simp only[RMV.val]at hgi;have HGI:=Ac hgi;clear hgi;go_wp2_with fail
  refine(Aa HGI _).mono ?_;rintro e w2 ⟨a,c,rfl,ht,hb2⟩;go_wp2;go_ret;obtain rfl:=Aa HR2;exact⟨a,c,rfl,ht,hB1.trans (hb2.mono hs1)⟩
 have n21:((code[p].toNat:Int)==21)=false:=by simp;omega
 have i21:=hop;clear hop;have HR:Hid (R=[]):=by
  unfold Hid;rw[← hres];unfold Aal;rw[if_neg (by omega),if_neg (by omega),if_neg (by omega),if_neg (by omega),if_neg (by omega)]
 clear hres i0 i7 i8 i9 i10 i24 i1 i17 i19 i20 i21;go_enter Tryz.func213,Tryz.ntmps213;go_wp2_with fail
 refine(Aa HAr _).mono ?_;rintro e w1 ⟨rfl,hb1⟩;have hB1:=(Ak w _ _).trans (hb1.mono (by simp;omega));have CF:=stay hb1 (Ah w _ _);have CM:=stay hb1 (Ag w _ _);obtain⟨m0,m1,m2,m3,m4,m5,m6,m7,m8,m9,m10,m11⟩:=Ap CM;obtain⟨f0,f1⟩:=cl2 CF;simp at f0 f1 m0 m1 m2 m3 m4 m5 m6 m7 m8 m9 m10 m11;have lF:=lt_of_block CF;have lM:=lt_of_block CM;have hs1:=hB1.size;clear hb1;go_wp2;go_ret;obtain rfl:=Aa HR;exact⟨none,0,rfl,TyR.nil _,hB1⟩
def Ado (T:List Int) (want:List (Int × Int)) (arg:Int→Int) (c:Int) (x:Zt):Option Zt :=
 if Abu T x.stack want=false then none else if x.stack.length<want.length+1 then none
 else if (x.stack.getD (x.stack.length-want.length-1) (0,0)).1≠4 then none
 else if arg (x.stack.getD (x.stack.length-want.length-1) (0,0)).2≠c then none
 else some ⟨Zy (x.stack.getD (x.stack.length-want.length-1) (0,0)) (3,c) x.locals,Zy (x.stack.getD (x.stack.length-want.length-1) (0,0)) (3,c) (x.stack.take (x.stack.length-want.length-1))⟩
theorem V5 (f:RFl) (m:RMV) (c:Nat) (v:FrV) (x:Zt) (w:World) (hf:f.ok w) (hc:c<f.l.length) (hs:m.code.size≤100000) (hv:v.is x w) (hxl:x.locals.length≤1000) (hxs:x.stack.length≤1000)
  (hraw:∀ t∈x.stack,t.1=4→0≤t.2∧t.2<(m.code.size:Int)) :
  Calls Tryz.prog 212 #[f.val,m.val,.int .i64 (c:Int),v.val] w fun e w' =>
   ∃ u:FrV,e=.returned (.tuple #[u.val,.bool (Ado f.T (Rf.all f.T (f.l.map Prod.fst) c) (fun q=>Rf.at' m.code.data.toList (q+1)) (c:Int) x).isSome]) ∧
    (∀ y,Ado f.T (Rf.all f.T (f.l.map Prod.fst) c) (fun q=>Rf.at' m.code.data.toList (q+1)) (c:Int) x=some y→u.is y w')∧Below w.heap.size w w':=by
 have hAl:=fun w' (h:Below w.heap.size w w')=>Nn f.a1 f.a2 f.c1 f.ms.length f.c2 f.bb f.l c w' hf.1 hc hf.2.2.2.1 (hf.below h).2.2.2.2.1;have hTp:=fun want a2 n2 c2 w' (h:Below w.heap.size w w') h2 hw=>Np f.v f.T x.stack want v.sa a2 v.sn v.sc n2 c2 w' (RFl.fitsAs (hf.below h)) (hv.st.below h) h2 (by omega) hw;have hAr:=fun q w' hq=>Er m q w' hq hs;have hTs:Al f.l=f.T:=rfl;rw[hTs]at hAl;have hal:=Ic f.T (f.l.map Prod.fst) (c:Int) (by intro p hp;obtain⟨z,hz,rfl⟩:=List.mem_map.1 hp;exact hf.2.2.2.1 z hz) (c+1);have hal2:(Rf.all f.T (f.l.map Prod.fst) c).length≤14000:=by unfold Rf.all;have:=hf.1;omega
 have e1:=hv.lo.cap.1;have e2:=hv.st.cap.1;have hcs:=hv.st.cap.2.1;have hlo:=hv.lo;have hst:=hv.st;generalize Rf.all f.T (f.l.map Prod.fst) c=want at *;generalize hres:Ado f.T want (fun q=>Rf.at' m.code.data.toList (q+1)) (c:Int) x=R;unfold Ado at hres;have hTw:=fun a2 n2 c2 w' h h2=>hTp want a2 n2 c2 w' h h2 (by omega);generalize Abu f.T x.stack want=TP at *;have hc13:c≤13:=by have:=hf.1;omega
 clear hTp hal hTs hf hv hc;obtain⟨fa1,fc1,fa2,fc2,bb,l,ms⟩:=f;obtain⟨cl,nm,pa,pl,pc,r1,r2,lo,st,code,ha,hl,hc,ma,ml,mc,mAt,fin⟩:=m;obtain⟨la,ln,lc,sa,sn,sc⟩:=v;simp only[RMV.val,RFl.val,RFl.v,RFv.val,FrV.val]at hAl hTw hAr e1 e2 hcs hlo hst hraw hres hs ⊢;subst e1 e2;have HAL:=Ac hAl;have HTW:=Ac hTw;have HAR:=Ac hAr;have HRAW:=Ac hraw;clear hAl hTw hAr hraw;have hB0:=Bp w (O11 fa1 l.length fc1 fa2 ms.length fc2) (O14 cl nm pa pl pc r1 r2 lo st code ha hl hc ma ml mc mAt fin) (O25 la x.locals.length lc sa x.stack.length sc) (O25 none 0 0 none 0 0);obtain⟨F0,M0,X0,Z0⟩:=Bf w (O11 fa1 l.length fc1 fa2 ms.length fc2) (O14 cl nm pa pl pc r1 r2 lo st code ha hl hc ma ml mc mAt fin) (O25 la x.locals.length lc sa x.stack.length sc) (O25 none 0 0 none 0 0);by_cases h1:TP=false
 ·subst h1;rw[if_pos rfl]at hres;have HE:=Ac hres.symm;clear hres;go_enter Tryz.func212,Tryz.ntmps212;go_wp2_with fail
  refine(Aa HAL _ hB0).mono ?_;rintro e w1 ⟨wa,wc,rfl,hwt,hb1⟩;have hB1:=QB hB0 hb1;have F1:=stay hb1 F0;have M1:=stay hb1 M0;have X1:=stay hb1 X0;have Z1:=stay hb1 Z0;obtain⟨f0,f1⟩:=cl2 F1;obtain⟨x0,x1⟩:=cl2 X1;have lF:=lt_of_block F1;have lX:=lt_of_block X1;simp at f0 f1 x0 x1;clear hb1 F0 M0 X0 Z0 hB0;go_wp2_with fail
  refine(Aa HTW wa want.length wc _ hB1 (TyR.of_tys hwt)).mono ?_;rintro e w2 ⟨rfl,hb2⟩;have hB2:=QB hB1 hb2;have F2:=stay hb2 F1;have M2:=stay hb2 M1;have X2:=stay hb2 X1;have Z2:=stay hb2 Z1;have hs2:=hB2.size;clear f0 f1 x0 x1 lF lX;obtain⟨x0,x1⟩:=cl2 X2;have lX:=lt_of_block X2;simp at x0 x1;clear hb2 F1 M1 X1 Z1 hB1;obtain⟨z0,z1⟩:=cl2 Z2;obtain⟨q0,q1⟩:=fr2 Z2;have lZ:=lt_of_block Z2;simp at z0 z1;go_wp2_with fail
  refine bodyPost_ret (v:=.tuple #[.agg #[.slice la x.locals.length lc,.slice sa x.stack.length sc],.bool false]) (by simp[results,Tryz.results212,go_sem,z0,z1]) rfl ?_;obtain rfl:=Aa HE;exact⟨⟨la,x.locals.length,lc,sa,x.stack.length,sc⟩,rfl,fun y hy=>by simp at hy,(hB2.setCell (by simp;omega) _).setCell (by simp;omega) _⟩
 ·have h1':TP=true:=by simpa using h1
  subst h1';rw[if_neg (by simp)]at hres;clear h1;by_cases h2:x.stack.length<want.length+1
  ·rw[if_pos h2]at hres;have HE:=Ac hres.symm;have h2':(x.stack.length:Int)-(want.length:Int)-1<0:=by omega
   clear hres h2;go_enter Tryz.func212,Tryz.ntmps212;go_wp2_with fail
   refine(Aa HAL _ hB0).mono ?_;rintro e w1 ⟨wa,wc,rfl,hwt,hb1⟩;have hB1:=QB hB0 hb1;have F1:=stay hb1 F0;have M1:=stay hb1 M0;have X1:=stay hb1 X0;have Z1:=stay hb1 Z0;obtain⟨f0,f1⟩:=cl2 F1;obtain⟨x0,x1⟩:=cl2 X1;have lF:=lt_of_block F1;have lX:=lt_of_block X1;simp at f0 f1 x0 x1;clear hb1 F0 M0 X0 Z0 hB0;go_wp2_with fail
   refine(Aa HTW wa want.length wc _ hB1 (TyR.of_tys hwt)).mono ?_;rintro e w2 ⟨rfl,hb2⟩;have hB2:=QB hB1 hb2;have F2:=stay hb2 F1;have M2:=stay hb2 M1;have X2:=stay hb2 X1;have Z2:=stay hb2 Z1;have hs2:=hB2.size;clear f0 f1 x0 x1 lF lX;obtain⟨x0,x1⟩:=cl2 X2;have lX:=lt_of_block X2;simp at x0 x1;clear hb2 F1 M1 X1 Z1 hB1;obtain⟨z0,z1⟩:=cl2 Z2;obtain⟨q0,q1⟩:=fr2 Z2;have lZ:=lt_of_block Z2;simp at z0 z1;go_wp2_with fail
   refine bodyPost_ret (v:=.tuple #[.agg #[.slice la x.locals.length lc,.slice sa x.stack.length sc],.bool false]) (by simp[results,Tryz.results212,go_sem,z0,z1]) rfl ?_;obtain rfl:=Aa HE;exact⟨⟨la,x.locals.length,lc,sa,x.stack.length,sc⟩,rfl,fun y hy=>by simp at hy,(hB2.setCell (by simp;omega) _).setCell (by simp;omega) _⟩
  ·rw[if_neg h2]at hres;obtain⟨low,hlow⟩:∃ low:Nat,x.stack.length=low+want.length+1:=⟨x.stack.length-want.length-1,by omega⟩;have e0:x.stack.length-want.length-1=low:=by omega
   rw[e0]at hres;have hlt:low<x.stack.length:=by omega
   have hgd:x.stack.getD low (0,0)=x.stack[low]:=by simp[List.getD_eq_getElem?_getD,hlt]
   rw[hgd]at hres;have hrw:=Aa HRAW _ (List.getElem_mem hlt);have hsub:(x.stack.length:Int)-(want.length:Int)-1=(low:Int):=by omega
   have hsubw:IntKind.i64.wrap ((x.stack.length:Int)-(want.length:Int)-1)=(low:Int):=by rw[hsub];exact Bd _ (by omega) (by omega)
   have hlti:(low:Int)<(x.stack.length:Int):=by omega
   have hlec:(low:Int)≤(sc:Int):=by omega
   obtain⟨gs,os,rfl,hgs,hat⟩:=hst.at (by omega);obtain⟨s0,s1⟩:=hat low hlt;generalize x.stack[low]=raw at *;obtain⟨k1,k2⟩:=raw;simp only at s0 s1 hres hrw;have S0:Hid (∀ w',Below w.heap.size w w'→w'.cell? ⟨gs,os+low*2,none⟩=some (.int .i64 k1)∧w'.cell? ⟨gs,os+low*2+1,none⟩=some (.int .i64 k2)∧gs<w'.heap.size):=fun w' h=>⟨(h.cell hgs).trans s0,(h.cell hgs).trans s1,Nat.lt_of_lt_of_le hgs h.size⟩;clear s0 s1 hat e0 hgd h2 hlow hgs;by_cases h3:k1=4
   ·subst h3;rw[if_neg (by simp)]at hres;obtain⟨hk0,hk1⟩:=hrw rfl;obtain⟨q,rfl⟩:=Int.eq_ofNat_of_zero_le hk0;have hq:q<code.size:=by omega
    obtain⟨A,hA⟩:∃ A,Rf.at' code.data.toList ((q:Int)+1)=A:=⟨_,rfl⟩;simp only[hA]at hres;have hAR:=fun w'=>Aa HAR q w' hq;rw[hA]at hAR;have HA2:=Ac hAR;clear hA hAR hk0 hk1 hrw HAR;by_cases h4:A=(c:Int)
    ·subst h4;rw[if_neg (by simp)]at hres;have HE:=Ac hres.symm;clear hres;go_enter Tryz.func212,Tryz.ntmps212;go_wp2_with fail
     refine(Aa HAL _ hB0).mono ?_;rintro e w1 ⟨wa,wc,rfl,hwt,hb1⟩;have hB1:=QB hB0 hb1;have F1:=stay hb1 F0;have M1:=stay hb1 M0;have X1:=stay hb1 X0;have Z1:=stay hb1 Z0;obtain⟨f0,f1⟩:=cl2 F1;obtain⟨x0,x1⟩:=cl2 X1;have lF:=lt_of_block F1;have lX:=lt_of_block X1;simp at f0 f1 x0 x1;clear hb1 F0 M0 X0 Z0 hB0;go_wp2_with fail
     refine(Aa HTW wa want.length wc _ hB1 (TyR.of_tys hwt)).mono ?_;rintro e w2 ⟨rfl,hb2⟩;have hB2:=QB hB1 hb2;have F2:=stay hb2 F1;have M2:=stay hb2 M1;have X2:=stay hb2 X1;have Z2:=stay hb2 Z1;have hs2:=hB2.size;clear f0 f1 x0 x1 lF lX;obtain⟨x0,x1⟩:=cl2 X2;have lX:=lt_of_block X2;simp at x0 x1;clear hb2 F1 M1 X1 Z1 hB1;obtain⟨s0,s1,hgs⟩:=Aa S0 _ hB2;have hs2':=hB2.size;have R2:=Ad w2 (O7 4 (q:Int));have hB2':=hB2.alloc hs2' (O7 4 (q:Int));have F2':=Aj F2 (O7 4 (q:Int));have M2':=Aj M2 (O7 4 (q:Int));have X2':=Aj X2 (O7 4 (q:Int));have Z2':=Aj Z2 (O7 4 (q:Int));have lM:=lt_of_block M2;obtain⟨m0,m1,m2,m3,m4,m5,m6,m7,m8,m9,m10,m11⟩:=Ap M2;simp at m0 m1 m2 m3 m4 m5 m6 m7 m8 m9 m10 m11;go_wp2_with fail
     refine(Aa HA2 _).mono ?_;rintro e w3 ⟨rfl,hb3⟩;have hB3:=hB2'.trans (hb3.mono hB2'.size);have R3:=stay hb3 R2;have X3:=stay hb3 X2';have Z3:=stay hb3 Z2';have hs3:=hB3.size;clear m0 m1 m2 m3 m4 m5 m6 m7 m8 m9 m10 m11 lM x0 x1 lX s0 s1 hb3 F2 M2 X2 Z2 F2' M2' X2' Z2' R2 hB2' hs2 hs2' hB2;obtain⟨x0,x1⟩:=cl2 X3;have lX:=lt_of_block X3;have lR:=lt_of_block R3;simp at x0 x1;obtain⟨rr0,rr1⟩:=cl2 R3;simp at rr0 rr1;go_wp2_with fail
     refine(Cr (c:Int) _).mono ?_;rintro e w4 ⟨rfl,hb4⟩;have hB4:=hB3.trans (hb4.mono hs3);have hs4:=hB4.size;have O4:=Ad w4 (O7 3 (c:Int));have hB4':=hB4.alloc hs4 (O7 3 (c:Int));have R4:=Aj (stay hb4 R3) (O7 3 (c:Int));have X4:=Aj (stay hb4 X3) (O7 3 (c:Int));have Z4:=Aj (stay hb4 Z3) (O7 3 (c:Int));have lz4:w.heap.size+1+1+1<(w4.alloc (O7 3 (c:Int))).heap.size:=lt_of_block Z4;have R4':=stay hb4 R3;have X4':=stay hb4 X3;clear rr0 rr1 x0 x1 lX lR hb4 R3 X3 Z3 hB3 hs3;have x0:=Ab X4' 0;have rr0:=Ab R4' 0;have rr1:=Ab R4' 1;have lX:=lt_of_block X4';have lR:=lt_of_block R4';simp at x0 rr0 rr1;go_wp2_with fail
     refine(Fc x.locals la x.locals.length lc 4 (q:Int) 3 (c:Int) _ (hlo.below hB4') (by omega)).mono ?_;rintro e w5 ⟨ta,tc,rfl,ht5,hb5⟩;have hB5:=hB4'.trans (hb5.mono hB4'.size);have hs5:=hB5.size;have R5:=stay hb5 R4;have X5:=stay hb5 X4;have Z5:=stay hb5 Z4;have O5:=stay hb5 O4;clear x0 rr0 rr1 lX lR hb5 R4 X4 Z4 O4 R4' X4' hB4 hB4' hs4;have x1:=Ab X5 1;have r0:=Ab R5 0;have r1':=Ab R5 1;obtain⟨o0,o1⟩:=cl2 O5;have lX:=lt_of_block X5;have lR:=lt_of_block R5;have lO:=lt_of_block O5;simp at x1 r0 r1' o0 o1;have htk:=(hst.below hB5.drew).take (k:=low) (by omega);have htl:(x.stack.take low).length=low:=by simp;omega
     have hc6:=Fc (x.stack.take low) (some ⟨gs,os,none⟩) low sc 4 (q:Int) 3 (c:Int) w5.drew htk (by omega);rw[htl]at hc6;have HC6:=Ac hc6;clear hc6 htk htl;go_wp2
     go_region_held3 (fun w'=>w'.cell? ⟨w.heap.size+1+1,1,none⟩=some (.slice (some ⟨gs,os,none⟩) x.stack.length sc)∧w'.cell? ⟨w2.heap.size,0,none⟩=some (.int .i64 4)∧w'.cell? ⟨w2.heap.size,1,none⟩=some (.int .i64 (q:Int))∧w'.cell? ⟨w4.heap.size,0,none⟩=some (.int .i64 3)∧w'.cell? ⟨w4.heap.size,1,none⟩=some (.int .i64 (c:Int)))
      (first | exact⟨x1,r0,r1',o0,o1⟩ | exact⟨QC hb7 lX x1,QC hb7 lR r0,QC hb7 lR r1',QC hb7 lO o0,QC hb7 lO o1⟩)
      (first | (go_at_call 211;refine(Aa HC6).mono ?_;rintro e w7 ⟨ua,uc,rfl,ht7,hb7⟩))
     have hB7:=hB5.drew.trans (hb7.mono hs5);have lz5:w.heap.size+1+1+1<w5.heap.size:=lt_of_block Z5;have ht5':=TysAt.kp ht5 (Kp.of_below (e:=none) (show Below w5.heap.size w5 w7 from (Below.refl _ _).drew.trans hb7)) (by decide);have hk8:=fun base (hb:w.heap.size+1+1+1<base)=>(Kp.set_lo (e:=none) (b:=base) (i:=0) (g:=w.heap.size+1+1+1) (w:=w7) hb (.slice ta x.locals.length tc)).trans (Kp.set_lo (i:=1) (g:=w.heap.size+1+1+1) hb (.slice ua low uc));have ht5'':=TysAt.kp ht5' (hk8 _ lz4) (by decide);have ht7'':=TysAt.kp ht7 (hk8 _ lz5) (by decide);have Z7:=stay hb7 (show (w5.drew).heap[w.heap.size+1+1+1]?=_ from Z5);clear x1 r0 r1' o0 o1 lX lR lO hb7 R5 X5 Z5 O5 ht5 ht7 ht5' hk8 hB5 HC6;obtain⟨z0,z1⟩:=cl2 Z7;obtain⟨q0,q1⟩:=fr2 Z7;have lZ:=lt_of_block Z7;simp at z0 z1;have hB8:=(hB7.setCell (p:=⟨w.heap.size+1+1+1,0,none⟩) (by simp;omega) (.slice ta x.locals.length tc)).setCell (p:=⟨w.heap.size+1+1+1,1,none⟩) (by simp;omega) (.slice ua low uc);go_wp2_with fail
     refine bodyPost_ret (v:=.tuple #[.agg #[.slice ta x.locals.length tc,.slice ua low uc],.bool true]) (by simp[results,Tryz.results212,go_sem,z0,z1]) rfl ?_;obtain rfl:=Aa HE;refine⟨⟨ta,x.locals.length,tc,ua,low,uc⟩,rfl,fun y hy=>?_,hB8⟩;simp only[Option.some.injEq]at hy;subst hy;exact⟨Bl ht5'' (by simp[Zy]),Bl ht7'' (by simp[Zy]),by simp[Zy];omega,by simp[Zy];omega⟩
    ·rw[if_pos h4]at hres;have HE:=Ac hres.symm;have h4':(A != (c:Int))=true:=by simpa using h4
     clear hres h4;go_enter Tryz.func212,Tryz.ntmps212;go_wp2_with fail
     refine(Aa HAL _ hB0).mono ?_;rintro e w1 ⟨wa,wc,rfl,hwt,hb1⟩;have hB1:=QB hB0 hb1;have F1:=stay hb1 F0;have M1:=stay hb1 M0;have X1:=stay hb1 X0;have Z1:=stay hb1 Z0;obtain⟨f0,f1⟩:=cl2 F1;obtain⟨x0,x1⟩:=cl2 X1;have lF:=lt_of_block F1;have lX:=lt_of_block X1;simp at f0 f1 x0 x1;clear hb1 F0 M0 X0 Z0 hB0;go_wp2_with fail
     refine(Aa HTW wa want.length wc _ hB1 (TyR.of_tys hwt)).mono ?_;rintro e w2 ⟨rfl,hb2⟩;have hB2:=QB hB1 hb2;have F2:=stay hb2 F1;have M2:=stay hb2 M1;have X2:=stay hb2 X1;have Z2:=stay hb2 Z1;have hs2:=hB2.size;clear f0 f1 x0 x1 lF lX;obtain⟨x0,x1⟩:=cl2 X2;have lX:=lt_of_block X2;simp at x0 x1;clear hb2 F1 M1 X1 Z1 hB1;obtain⟨s0,s1,hgs⟩:=Aa S0 _ hB2;have hs2':=hB2.size;have R2:=Ad w2 (O7 4 (q:Int));have hB2':=hB2.alloc hs2' (O7 4 (q:Int));have F2':=Aj F2 (O7 4 (q:Int));have M2':=Aj M2 (O7 4 (q:Int));have X2':=Aj X2 (O7 4 (q:Int));have Z2':=Aj Z2 (O7 4 (q:Int));have lM:=lt_of_block M2;obtain⟨m0,m1,m2,m3,m4,m5,m6,m7,m8,m9,m10,m11⟩:=Ap M2;simp at m0 m1 m2 m3 m4 m5 m6 m7 m8 m9 m10 m11;go_wp2_with fail
     refine(Aa HA2 _).mono ?_;rintro e w3 ⟨rfl,hb3⟩;have hB3:=hB2'.trans (hb3.mono hB2'.size);have R3:=stay hb3 R2;have X3:=stay hb3 X2';have Z3:=stay hb3 Z2';have hs3:=hB3.size;clear m0 m1 m2 m3 m4 m5 m6 m7 m8 m9 m10 m11 lM x0 x1 lX s0 s1 hb3 F2 M2 X2 Z2 F2' M2' X2' Z2' R2 hB2' hs2 hs2' hB2;obtain⟨x0,x1⟩:=cl2 X3;have lX:=lt_of_block X3;have lR:=lt_of_block R3;simp at x0 x1;obtain⟨z0,z1⟩:=cl2 Z3;obtain⟨q0,q1⟩:=fr2 Z3;have lZ:=lt_of_block Z3;simp at z0 z1;go_wp2_with fail
     refine bodyPost_ret (v:=.tuple #[.agg #[.slice la x.locals.length lc,.slice (some ⟨gs,os,none⟩) x.stack.length sc],.bool false]) (by simp[results,Tryz.results212,go_sem,z0,z1]) rfl ?_;obtain rfl:=Aa HE;exact⟨⟨la,x.locals.length,lc,some ⟨gs,os,none⟩,x.stack.length,sc⟩,rfl,fun y hy=>by simp at hy,(hB3.setCell (by simp;omega) _).setCell (by simp;omega) _⟩
   ·rw[if_pos h3]at hres;have HE:=Ac hres.symm;have h3':(k1 != 4)=true:=by simpa using h3
    clear hres h3 hrw;go_enter Tryz.func212,Tryz.ntmps212;go_wp2_with fail
    refine(Aa HAL _ hB0).mono ?_;rintro e w1 ⟨wa,wc,rfl,hwt,hb1⟩;have hB1:=QB hB0 hb1;have F1:=stay hb1 F0;have M1:=stay hb1 M0;have X1:=stay hb1 X0;have Z1:=stay hb1 Z0;obtain⟨f0,f1⟩:=cl2 F1;obtain⟨x0,x1⟩:=cl2 X1;have lF:=lt_of_block F1;have lX:=lt_of_block X1;simp at f0 f1 x0 x1;clear hb1 F0 M0 X0 Z0 hB0;go_wp2_with fail
    refine(Aa HTW wa want.length wc _ hB1 (TyR.of_tys hwt)).mono ?_;rintro e w2 ⟨rfl,hb2⟩;have hB2:=QB hB1 hb2;have F2:=stay hb2 F1;have M2:=stay hb2 M1;have X2:=stay hb2 X1;have Z2:=stay hb2 Z1;have hs2:=hB2.size;clear f0 f1 x0 x1 lF lX;obtain⟨x0,x1⟩:=cl2 X2;have lX:=lt_of_block X2;simp at x0 x1;clear hb2 F1 M1 X1 Z1 hB1;obtain⟨s0,s1,hgs⟩:=Aa S0 _ hB2;obtain⟨z0,z1⟩:=cl2 Z2;obtain⟨q0,q1⟩:=fr2 Z2;have lZ:=lt_of_block Z2;simp at z0 z1;go_wp2_with fail
    refine bodyPost_ret (v:=.tuple #[.agg #[.slice la x.locals.length lc,.slice (some ⟨gs,os,none⟩) x.stack.length sc],.bool false]) (by simp[results,Tryz.results212,go_sem,z0,z1,lZ]) rfl ?_;obtain rfl:=Aa HE;exact⟨⟨la,x.locals.length,lc,some ⟨gs,os,none⟩,x.stack.length,sc⟩,rfl,fun y hy=>by simp at hy,((hB2.setCell (by simp;omega) _).setCell (by simp;omega) _).alloc (by simp;omega) _⟩
end Go.Proofs.YtcefiamkoincoaaGreat
