/- the proof's parts -/
import Derived.Test.YtpcgnjolfahacaaGreatPk01
set_option maxRecDepth 100000
set_option maxHeartbeats 40000000
set_option linter.unusedVariables false
set_option linter.unusedSimpArgs false
set_option linter.defProp false
namespace Go.Proofs.YtpcgnjolfahacaaGreat
open Go.RowKit Go.Proofs.Tryz
abbrev Sb:Rf.Mth × K0:=⟨⟨⟨0,0,[],(0,0),0,0,[],[],[]⟩,0,0⟩,⟨.slice none 0 0,⟨#[]⟩,.slice none 0 0,.slice none 0 0⟩⟩
def Co (F:List Rf.Fld)(ms:List Rd.Mth)(res:Int × Int)(op n:Int):List (Int × Int) :=
 if op=7\/op=8\/op=9\/op=10\/op=13 then [(1,0),(1,0)] else if op=12\/op=25 then [(1,0)] else if op=14\/op=19 then [(3,0)]
 else if op=17 then [(3,(F.getD n.toNat ⟨0,0,(0,0)⟩).owner)] else if op=18 then [(3,(F.getD n.toNat ⟨0,0,(0,0)⟩).owner),(F.getD n.toNat ⟨0,0,(0,0)⟩).t]
 else if op=20 then (ms.getD n.toNat ⟨0,0,[],(0,0),0,0,[],[],[]⟩).params else if op=21 then (3,(ms.getD n.toNat ⟨0,0,[],(0,0),0,0,[],[],[]⟩).cl)::(ms.getD n.toNat ⟨0,0,[],(0,0),0,0,[],[],[]⟩).params
 else if op=22 then Ds res else if op=23 then [(3,1)] else []
def Dp (F:List Rf.Fld)(ms:List Rd.Mth)(op n:Int):List (Int × Int) :=
 if op=0\/op=7\/op=8\/op=9\/op=10\/op=24 then [(1,0)] else if op=1 then [(2,0)] else if op=17 then [(F.getD n.toNat ⟨0,0,(0,0)⟩).t]
 else if op=19 then [(3,n)] else if op=20\/op=21 then Ds (ms.getD n.toNat ⟨0,0,[],(0,0),0,0,[],[],[]⟩).result else []
def Ez(l:List Rf.Fld)(k:Nat)(b:k<l.length)(j:Nat)(c:j<4):(Lk l)[k*4+j]?=[Value.int .i64 l[k].owner,.i l[k].slot,.i l[k].t.1,.i l[k].t.2][j]?/\k*4+j<(Lk l).length:=by
 refine⟨Nk (fun x:Rf.Fld=>[Value.int .i64 x.owner,.i x.slot,.i x.t.1,.i x.t.2]) 4 (fun _=>rfl) l k b j c,?_⟩;unfold Lk;rw[Kx (fun x:Rf.Fld=>[Value.int .i64 x.owner,.i x.slot,.i x.t.1,.i x.t.2]) 4 (fun _=>rfl) l];omega
def Bdm(b:List (Rf.Mth×K0))(q:Nat):(b.map fun x=>x.1.m).getD q ⟨0,0,[],(0,0),0,0,[],[],[]⟩=(b.getD q Sb).1.m:=by
 simp only[Vm,Bsf];cases b[q]? <;> rfl
def Zg(f:RFl)(m:RMV)(p:Nat)(w:TW)(hf:f.ok w)(hp:p<m.code.size)(hs:m.code.size<=100000)(a6:∀x∈f.ms,x.1.m.params.length<=1000) (b4:(Ca m.code).getD p 0=17\/(Ca m.code).getD p 0=18->0<=Rf.at' m.code.data.toList ((p:Int)+1)/\Rf.at' m.code.data.toList ((p:Int)+1)<(f.fields.length:Int)) (b5:(Ca m.code).getD p 0=20\/(Ca m.code).getD p 0=21->0<=Rf.at' m.code.data.toList ((p:Int)+1)/\Rf.at' m.code.data.toList ((p:Int)+1)<(f.ms.length:Int)):Calls prog 98 #[f.val,m.val,.i (p:Int)] w fun e w' => ∃a c,e=.r (.s a (Co f.fields (f.ms.map fun x=>x.1.m) (m.r1,m.r2) ((Ca m.code).getD p 0) (Rf.at' m.code.data.toList ((p:Int)+1))).length c)/\TyR w' (.s a (Co f.fields (f.ms.map fun x=>x.1.m) (m.r1,m.r2) ((Ca m.code).getD p 0) (Rf.at' m.code.data.toList ((p:Int)+1))).length c) (Co f.fields (f.ms.map fun x=>x.1.m) (m.r1,m.r2) ((Ca m.code).getD p 0) (Rf.at' m.code.data.toList ((p:Int)+1)))/\Bl w w':=by
 rw[Kq _ _ hp]at b4 b5 ⊢;have c0:=fun w=>Mz m p w hp hs;have c3:=fun w=>Zj m w;have b6:=fun w (h:f.ok w)=>N6 f.a1 f.a2 f.c1 f.ms.length f.c2 f.bb f.l w h.1 h.2.1 h.2.2.2.1 h.2.2.2.2.1;have c8:=hf;obtain⟨c9,d0,d1,d2,bb,l,G⟩:=f;obtain⟨cl,nm,pa,pl,pc,r1,r2,lo,st,v,ha,hl,hc,ma,ml,mc,j3,j4⟩:=m;simp only[RMV.val,RFl.val]at hp hs c0 b6 c3 b4 b5 a6 ⊢;have d3:(RFl.mk c9 d0 d1 d2 bb l G).fields=Rf.fieldsTo (Ct l) (l.map Prod.fst) (l.length-7):=rfl;rw[<- d3]at b6;generalize (RFl.mk c9 d0 d1 d2 bb l G).fields=z at *;generalize Rf.at' v.data.toList ((p:Int)+1)=n at *;generalize D:Co z (G.map fun x=>x.1.m) (r1,r2) (v[p].toNat:Int) n=R;have j5:(p:Int)<(v.size:Int):=Ck;have j6:∀c:UInt8,IntKind.i64.wrap (c.toNat:Int)=(c.toNat:Int):=fun c=>Cx _ Ck (by have:=c.toNat_lt;omega);have g0:=Bc c0;have g1:=Bc c3;have d4:=Bc b6;have b7:=Bc c8;have d5:=Bc b4;have d6:=Bc b5;have d7:=Bc a6;clear c0 c3 b6 c8 hf b4 b5 a6 d3;go_in;go_wp2_with fail;refine Qm (Ba g0 _) ?_;intro w1 b8;have J:=(Bu w _ _).trans (b8.mono Fr);have CF:=stay b8 (Cb w _ _);have CM:=stay b8 (Bx w _ _);obtain⟨m0,m1,m2,m3,m4,m5,m6,m7,m8,m9,g2,g3⟩:=El CM;obtain⟨f0,f1⟩:=cl2 CF;simp at f0 f1 m0 m1 m2 m3 m4 m5 m6 m7 m8 m9 g2 g3;have lF:=Sp CF;have lM:=Sp CM;have a4:=J.size;clear b8;by_cases b:(v[p].toNat:Int)=7\/(v[p].toNat:Int)=8\/(v[p].toNat:Int)=9\/(v[p].toNat:Int)=10\/(v[p].toNat:Int)=13
 ·rcases b with b|b|b|b|b
  all_goals
   have A:Hid (R=[(1,0),(1,0)]):=by unfold Hid;rw[<- D];unfold Co;rw[b];simp
   clear D;have hn:=TyR.new2 w1 1 0 1 0;go_wp2;go_ret;obtain rfl:=Ba A;exact⟨_,_,rfl,hn,J.alloc a4 _⟩
 have n7:((v[p].toNat:Int)==7)=false:=Fr;have n8:((v[p].toNat:Int)==8)=false:=Fr;have n9:((v[p].toNat:Int)==9)=false:=Fr;have j7:((v[p].toNat:Int)==10)=false:=Fr;have j8:((v[p].toNat:Int)==13)=false:=Fr;have i7:=b;clear b;by_cases b:(v[p].toNat:Int)=12\/(v[p].toNat:Int)=25
 ·rcases b with b|b
  all_goals
   have A:Hid (R=[(1,0)]):=by unfold Hid;rw[<- D];unfold Co;rw[b];simp
   clear D;go_wp2_with fail;refine(Ym 1 _).mono ?_;rintro e I ⟨a,c,rfl,ht,F⟩;go_wp2;go_ret;obtain rfl:=Ba A;exact⟨a,c,rfl,ht,J.trans (F.mono a4)⟩
 have j9:((v[p].toNat:Int)==12)=false:=Fr;have k0:((v[p].toNat:Int)==25)=false:=Fr;have g4:=b;clear b;by_cases b:(v[p].toNat:Int)=14\/(v[p].toNat:Int)=19
 ·rcases b with b|b
  all_goals
   have A:Hid (R=[(3,0)]):=by unfold Hid;rw[<- D];unfold Co;rw[b];simp
   clear D;go_wp2_with fail;refine Qm (Lb 0 _) ?_;intro I F;have L:=J.trans (F.mono a4);have hn:=TyR.new1 I 3 0;go_wp2;go_ret;obtain rfl:=Ba A;exact⟨_,_,rfl,hn,L.alloc L.size _⟩
 have k1:((v[p].toNat:Int)==14)=false:=Fr;have k2:((v[p].toNat:Int)==19)=false:=Fr;have g5:=b;clear b;by_cases b:(v[p].toNat:Int)=17
 ·have hq:=Ba d5 (by rw[b];simp);obtain⟨q,rfl⟩:=Brp hq.1;have K:q<z.length:=Ck;have c4:(q:Int)<(z.length:Int):=Ck;have A:Hid (R=[(3,(z.getD q ⟨0,0,(0,0)⟩).owner)]):=by unfold Hid;rw[<- D];unfold Co;rw[b];simp[-List.getD_eq_getElem?_getD]
  clear D;go_wp2_with fail;refine(Ba d4 _ ((Ba b7).below J)).mono ?_;rintro e I ⟨va,vc,rfl,a9,F⟩;have L:=J.trans (F.mono a4);have b0:=L.size;obtain⟨g,hg,N,_,a0⟩:=Cf a9 Ck;have Q:=(a0 _ (Ez z q K 0 Ck).2).trans (Ez z q K 0 Ck).1;have O:=(a0 _ (Ez z q K 2 Ck).2).trans (Ez z q K 2 Ck).1;have V:=(a0 _ (Ez z q K 3 Ck).2).trans (Ez z q K 3 Ck).1;simp at Q O V;have b1:z.getD q ⟨0,0,(0,0)⟩=z[q]:=by simp[Vm,K]
  have B:=Ba A;rw[b1]at B;generalize z[q]=fd at *;obtain⟨fo,fs,c5,c6⟩:=fd;simp only at Q O V B;have a7:=Bc B;clear a0 a9 b1 B A;subst hg;go_wp2_with fail;refine Qm (Lb fo _) ?_;intro w3 g6;have b9:=L.trans (g6.mono b0);have hn:=TyR.new1 w3 3 fo;go_wp2;go_ret;obtain rfl:=Ba a7;exact⟨_,_,rfl,hn,b9.alloc b9.size _⟩
 have k3:((v[p].toNat:Int)==17)=false:=Fr;have g7:=b;clear b;by_cases b:(v[p].toNat:Int)=18
 ·have hq:=Ba d5 (by rw[b];simp);obtain⟨q,rfl⟩:=Brp hq.1;have K:q<z.length:=Ck;have c4:(q:Int)<(z.length:Int):=Ck;have A:Hid (R=[(3,(z.getD q ⟨0,0,(0,0)⟩).owner),(z.getD q ⟨0,0,(0,0)⟩).t]):=by unfold Hid;rw[<- D];unfold Co;rw[b];simp[-List.getD_eq_getElem?_getD]
  clear D;go_wp2_with fail;refine(Ba d4 _ ((Ba b7).below J)).mono ?_;rintro e I ⟨va,vc,rfl,a9,F⟩;have L:=J.trans (F.mono a4);have b0:=L.size;obtain⟨g,hg,N,_,a0⟩:=Cf a9 Ck;have Q:=(a0 _ (Ez z q K 0 Ck).2).trans (Ez z q K 0 Ck).1;have O:=(a0 _ (Ez z q K 2 Ck).2).trans (Ez z q K 2 Ck).1;have V:=(a0 _ (Ez z q K 3 Ck).2).trans (Ez z q K 3 Ck).1;simp at Q O V;have b1:z.getD q ⟨0,0,(0,0)⟩=z[q]:=by simp[Vm,K]
  have B:=Ba A;rw[b1]at B;generalize z[q]=fd at *;obtain⟨fo,fs,c5,c6⟩:=fd;simp only at Q O V B;have a7:=Bc B;clear a0 a9 b1 B A;subst hg;have d8:=fun w=>Lb fo w;have g8:=Bc d8;clear d8;go_wp2
  go_region_held3 (fun w'=>w'.C g (q*4) (.i fo)/\w'.C g (q*4+2) (.i c5)/\w'.C g (q*4+3) (.i c6))
   (first|exact⟨Q,O,V⟩|exact⟨QC Z N Q,QC Z N O,QC Z N V⟩|exact⟨(QA (QL Z N) (QC Z N Q)),(QA (QL Z N) (QC Z N O)),(QA (QL Z N) (QC Z N V))⟩)
   (first|(go_at_call 142;refine(Ba g8 _).mono ?_;rintro e w7 ⟨rfl,Z⟩))
  have d9:=L.drew.trans (Z.mono b0);have hn:=TyR.new2 w7 3 fo c5 c6;go_wp2;go_ret;obtain rfl:=Ba a7;exact⟨_,_,rfl,hn,d9.alloc d9.size _⟩
 have k4:((v[p].toNat:Int)==18)=false:=Fr;have g9:=b;clear b;by_cases b:(v[p].toNat:Int)=20
 ·have hq:=Ba d6 (by rw[b];simp);obtain⟨q,rfl⟩:=Brp hq.1;have a3:q<G.length:=Ck;have c4:(q:Int)<(G.length:Int):=Ck;have A:Hid (R=(G.getD q Sb).1.m.params):=by unfold Hid;rw[<- D];unfold Co;rw[b];simp[-List.getD_eq_getElem?_getD,Bdm]
  clear D;obtain⟨o,g,hg,N,Y,a8⟩:=RFl.mth ((Ba b7).below J) a3;simp only at hg Y a8 a3;replace Y:=Oe Y;have b2:G.getD q Sb=G[q]:=by simp[Vm,a3]
  have B:=Ba A;rw[b2]at B;have a6:=Ba d7 _ (Brn a3);generalize G[q]=md at *;obtain⟨md,mu⟩:=md;simp only at a8 B a6;obtain⟨e1,-,e3,e4,-,-,-,-,e9,b3,-,-,-,-,-⟩:=a8;have c7:md.m.result=(o.r1,o.r2):=by rw[e3,e4]
  generalize md.m.params=ps at *;obtain⟨a5,h0,f2,h1,f3,h2,h3,h4,h5,h6,h7,h8,h9,i0,i1,i2,i3,i4⟩:=o;simp only at e9 b3 B Y;subst e9;obtain⟨Q,y1,O,V,y4,y5,y6,y7,y8,y9,f4,f5⟩:=Y;have a7:=Bc B;clear b2 B A c7 e1 e3 e4;subst hg;go_wp2;go_ret;obtain rfl:=Ba a7;exact⟨_,_,rfl,TyR.of_tys b3,J⟩
 have k5:((v[p].toNat:Int)==20)=false:=Fr;have i5:=b;clear b;by_cases b:(v[p].toNat:Int)=21
 ·have hq:=Ba d6 (by rw[b];simp);obtain⟨q,rfl⟩:=Brp hq.1;have a3:q<G.length:=Ck;have c4:(q:Int)<(G.length:Int):=Ck;have A:Hid (R=(3,(G.getD q Sb).1.m.cl)::(G.getD q Sb).1.m.params):=by unfold Hid;rw[<- D];unfold Co;rw[b];simp[-List.getD_eq_getElem?_getD,Bdm]
  clear D;obtain⟨o,g,hg,N,Y,a8⟩:=RFl.mth ((Ba b7).below J) a3;simp only at hg Y a8 a3;replace Y:=Oe Y;have b2:G.getD q Sb=G[q]:=by simp[Vm,a3]
  have B:=Ba A;rw[b2]at B;have a6:=Ba d7 _ (Brn a3);generalize G[q]=md at *;obtain⟨md,mu⟩:=md;simp only at a8 B a6;obtain⟨e1,-,e3,e4,-,-,-,-,e9,b3,-,-,-,-,-⟩:=a8;have c7:md.m.result=(o.r1,o.r2):=by rw[e3,e4]
  rw[<- e1]at B;generalize md.m.params=ps at *;obtain⟨a5,h0,f2,h1,f3,h2,h3,h4,h5,h6,h7,h8,h9,i0,i1,i2,i3,i4⟩:=o;simp only at e9 b3 B Y;subst e9;obtain⟨Q,y1,O,V,y4,y5,y6,y7,y8,y9,f4,f5⟩:=Y;have a7:=Bc B;clear b2 B A c7 e1 e3 e4;subst hg;go_wp2_with fail;refine Qm (Lb a5 _) ?_;intro I F;have L:=J.trans (F.mono a4);have b0:=L.size;have f6:=stay F CF;have i6:=Bb f6 1;have k6:=Sp f6;simp at i6;have k7:g<I.heap.size:=Brs N F.size;have k8:=(F.cell (p:=.a g (q*12+2)) N).trans O;have i8:Bl I (I.alloc (O7 3 a5)):=QN _;have i9:=((TyR.of_tys b3).below F).below i8;have f7:(I.alloc (O7 3 a5)).ownsRow I.heap.size 31 2 (.s (.p I.heap.size) 1 1) ([((3:Int),a5)]:TP).length (Bp [((3:Int),a5)]) :=
   ⟨rfl,.inr ⟨I.heap.size,1,_,rfl,Bru _,Be _ _,Hd,Pf,rfl,rfl⟩⟩
  clear F Q y1 O V y4 y5 y6 y7 y8 y9 f4 f5;go_wp2_with (at_builtin;refine Jo rfl _ _ rfl I.heap.size _ [(3,a5)] ps f2 ps.length f3 rfl f7 rfl i9 Fr Hd ?_)
  intro v' w3 f8 f9;obtain⟨va,vc,rfl⟩:=Bh f8;have b9:=(L.alloc b0 (O7 3 a5)).grown f9 Fr (fun j hj=>by have:=(f7.lt j hj).1;omega);clear f9;go_wp2;go_ret;obtain rfl:=Ba a7;exact⟨va,vc,Hd,Gw (by simpa using f8) Hd,b9⟩
 have k9:((v[p].toNat:Int)==21)=false:=Fr;have j0:=b;clear b;by_cases b:(v[p].toNat:Int)=22
 ·have A:Hid (R=Ds (r1,r2)):=by unfold Hid;rw[<- D];unfold Co;rw[b];simp
  clear D;go_wp2_with fail;refine(Ba g1 _).mono ?_;rintro e I ⟨a,c,rfl,ht,F⟩;go_wp2;go_ret;obtain rfl:=Ba A;exact⟨a,c,rfl,ht,J.trans (F.mono a4)⟩
 have l0:((v[p].toNat:Int)==22)=false:=Fr;have j1:=b;clear b;by_cases b:(v[p].toNat:Int)=23
 ·have A:Hid (R=[(3,1)]):=by unfold Hid;rw[<- D];unfold Co;rw[b];simp
  clear D;go_wp2_with fail;refine Qm (Lb 1 _) ?_;intro I F;have L:=J.trans (F.mono a4);have hn:=TyR.new1 I 3 1;go_wp2;go_ret;obtain rfl:=Ba A;exact⟨_,_,rfl,hn,L.alloc L.size _⟩
 have l1:((v[p].toNat:Int)==23)=false:=Fr;have j2:=b;clear b;have A:Hid (R=[]):=by
  unfold Hid;rw[<- D];unfold Co;rw[Pk Ck,Pk Ck,Pk Ck,Pk Ck,Pk Ck,Pk Ck,Pk Ck,Pk Ck,Pk Ck]
 clear D i7 g4 g5 g7 g9 i5 j0 j1 j2;go_wp2;go_ret;obtain rfl:=Ba A;exact⟨none,0,rfl,TyR.nil _,J⟩
def Bep(f:RFl)(m:RMV)(p:Nat)(w:TW)(hf:f.ok w)(hp:p<m.code.size)(hs:m.code.size<=100000)(J:∀x∈f.ms,x.1.m.params.length<=1000) (Q:(Ca m.code).getD p 0=17\/(Ca m.code).getD p 0=18->0<=Rf.at' m.code.data.toList ((p:Int)+1)/\Rf.at' m.code.data.toList ((p:Int)+1)<(f.fields.length:Int)) (V:(Ca m.code).getD p 0=20\/(Ca m.code).getD p 0=21->0<=Rf.at' m.code.data.toList ((p:Int)+1)/\Rf.at' m.code.data.toList ((p:Int)+1)<(f.ms.length:Int)):Calls prog 299 #[f.val,m.val,.i (p:Int)] w fun e w' => ∃a c,e=.r (.s a (Dp f.fields (f.ms.map fun x=>x.1.m) ((Ca m.code).getD p 0) (Rf.at' m.code.data.toList ((p:Int)+1))).length c)/\TyR w' (.s a (Dp f.fields (f.ms.map fun x=>x.1.m) ((Ca m.code).getD p 0) (Rf.at' m.code.data.toList ((p:Int)+1))).length c) (Dp f.fields (f.ms.map fun x=>x.1.m) ((Ca m.code).getD p 0) (Rf.at' m.code.data.toList ((p:Int)+1)))/\Bl w w':=by
 rw[Kq _ _ hp]at Q V ⊢;have a4:=fun w=>Mz m p w hp hs;have Y:=fun w (h:f.ok w)=>N6 f.a1 f.a2 f.c1 f.ms.length f.c2 f.bb f.l w h.1 h.2.1 h.2.2.2.1 h.2.2.2.2.1;have a8:=hf;obtain⟨a9,b0,b1,b2,bb,l,C⟩:=f;obtain⟨cl,nm,pa,pl,pc,r1,r2,lo,st,j,ha,hl,hc,ma,ml,mc,g7,g8⟩:=m;simp only[RMV.val,RFl.val]at hp hs a4 Y Q V J ⊢;have b3:(RFl.mk a9 b0 b1 b2 bb l C).fields=Rf.fieldsTo (Ct l) (l.map Prod.fst) (l.length-7):=rfl;rw[<- b3]at Y;generalize (RFl.mk a9 b0 b1 b2 bb l C).fields=v at *;generalize Rf.at' j.data.toList ((p:Int)+1)=n at *;generalize A:Dp v (C.map fun x=>x.1.m) (j[p].toNat:Int) n=R;have g9:(p:Int)<(j.size:Int):=Ck;have h0:∀c:UInt8,IntKind.i64.wrap (c.toNat:Int)=(c.toNat:Int):=fun c=>Cx _ Ck (by have:=c.toNat_lt;omega);have b9:=Bc a4;have c0:=Bc Y;have b4:=Bc a8;have c3:=Bc Q;have c4:=Bc V;have c5:=Bc J;clear a4 Y a8 hf Q V J b3;go_in;go_wp2_with fail;refine Qm (Ba b9 _) ?_;intro w1 Z;have D:=(Bu w _ _).trans (Z.mono Fr);have CF:=stay Z (Cb w _ _);have CM:=stay Z (Bx w _ _);obtain⟨m0,m1,m2,m3,m4,m5,m6,m7,m8,m9,c6,c7⟩:=El CM;obtain⟨f0,f1⟩:=cl2 CF;simp at f0 f1 m0 m1 m2 m3 m4 m5 m6 m7 m8 m9 c6 c7;have lF:=Sp CF;have lM:=Sp CM;have K:=D.size;clear Z;by_cases b:(j[p].toNat:Int)=0\/(j[p].toNat:Int)=7\/(j[p].toNat:Int)=8\/(j[p].toNat:Int)=9\/(j[p].toNat:Int)=10\/(j[p].toNat:Int)=24
 ·rcases b with b|b|b|b|b|b
  all_goals
   have z:Hid (R=[(1,0)]):=by unfold Hid;rw[<- A];unfold Dp;rw[b];simp
   clear A;go_wp2_with fail;refine(Ym 1 _).mono ?_;rintro e I ⟨a,c,rfl,L,F⟩;go_wp2;go_ret;obtain rfl:=Ba z;exact⟨a,c,rfl,L,D.trans (F.mono K)⟩
 have n0:((j[p].toNat:Int)==0)=false:=Fr;have n7:((j[p].toNat:Int)==7)=false:=Fr;have n8:((j[p].toNat:Int)==8)=false:=Fr;have n9:((j[p].toNat:Int)==9)=false:=Fr;have h1:((j[p].toNat:Int)==10)=false:=Fr;have h2:((j[p].toNat:Int)==24)=false:=Fr;have i0:=b;clear b;by_cases b:(j[p].toNat:Int)=1
 ·have z:Hid (R=[(2,0)]):=by unfold Hid;rw[<- A];unfold Dp;rw[b];simp
  clear A;go_wp2_with fail;refine(Ym 2 _).mono ?_;rintro e I ⟨a,c,rfl,L,F⟩;go_wp2;go_ret;obtain rfl:=Ba z;exact⟨a,c,rfl,L,D.trans (F.mono K)⟩
 have n1:((j[p].toNat:Int)==1)=false:=Fr;have i1:=b;clear b;by_cases b:(j[p].toNat:Int)=17
 ·have hq:=Ba c3 (by rw[b];simp);obtain⟨q,rfl⟩:=Brp hq.1;have G:q<v.length:=Ck;have c8:(q:Int)<(v.length:Int):=Ck;have z:Hid (R=[(v.getD q ⟨0,0,(0,0)⟩).t]):=by unfold Hid;rw[<- A];unfold Dp;rw[b];simp[-List.getD_eq_getElem?_getD]
  clear A;go_wp2_with fail;refine(Ba c0 _ ((Ba b4).below D)).mono ?_;rintro e I ⟨va,vc,rfl,b5,F⟩;have N:=D.trans (F.mono K);have c9:=N.size;obtain⟨g,hg,d0,_,a0⟩:=Cf b5 Ck;have y0:=(a0 _ (Ez v q G 0 Ck).2).trans (Ez v q G 0 Ck).1;have y2:=(a0 _ (Ez v q G 2 Ck).2).trans (Ez v q G 2 Ck).1;have y3:=(a0 _ (Ez v q G 3 Ck).2).trans (Ez v q G 3 Ck).1;simp at y0 y2 y3;have b6:v.getD q ⟨0,0,(0,0)⟩=v[q]:=by simp[Vm,G]
  have B:=Ba z;rw[b6]at B;generalize v[q]=fd at *;obtain⟨fo,fs,d1,d2⟩:=fd;simp only at y0 y2 y3 B;have a5:=Bc B;clear a0 b5 b6 B z;subst hg;have hn:=TyR.new1 I d1 d2;go_wp2;go_ret;obtain rfl:=Ba a5;exact⟨_,_,rfl,hn,N.alloc c9 _⟩
 have h3:((j[p].toNat:Int)==17)=false:=Fr;have d3:=b;clear b;by_cases b:(j[p].toNat:Int)=19
 ·have z:Hid (R=[(3,n)]):=by unfold Hid;rw[<- A];unfold Dp;rw[b];simp
  clear A;go_wp2_with fail;refine Qm (Lb n _) ?_;intro I F;have N:=D.trans (F.mono K);have hn:=TyR.new1 I 3 n;go_wp2;go_ret;obtain rfl:=Ba z;exact⟨_,_,rfl,hn,N.alloc N.size _⟩
 have h4:((j[p].toNat:Int)==19)=false:=Fr;have d4:=b;clear b;by_cases b:(j[p].toNat:Int)=20\/(j[p].toNat:Int)=21
 ·rcases b with b|b
  all_goals
   have hq:=Ba c4 (by rw[b];simp);obtain⟨q,rfl⟩:=Brp hq.1;have a3:q<C.length:=Ck;have c8:(q:Int)<(C.length:Int):=Ck;have z:Hid (R=Ds (C.getD q Sb).1.m.result):=by unfold Hid;rw[<- A];unfold Dp;rw[b];simp[-List.getD_eq_getElem?_getD,Bdm]
   clear A;obtain⟨o,g,hg,d0,O,a6⟩:=RFl.mth ((Ba b4).below D) a3;simp only at hg O a6 a3;replace O:=Oe O;have b7:C.getD q Sb=C[q]:=by simp[Vm,a3]
   have B:=Ba z;rw[b7]at B;have J:=Ba c5 _ (Brn a3);generalize C[q]=md at *;obtain⟨md,mu⟩:=md;simp only at a6 B J;obtain⟨e1,-,e3,e4,-,-,-,-,e9,d5,-,-,-,-,-⟩:=a6;have b8:md.m.result=(o.r1,o.r2):=by rw[e3,e4]
   rw[b8]at B;generalize md.m.params=ps at *;obtain⟨d6,d7,d8,h5,d9,f2,f3,f4,f5,f6,f7,f8,f9,g0,g1,g2,g3,g4⟩:=o;simp only at e9 d5 B O;subst e9;obtain⟨y0,y1,y2,y3,y4,y5,y6,y7,y8,y9,h6,h7⟩:=O;have a5:=Bc B;clear b7 B z b8 e1 e3 e4;subst hg;have a7:=fun w=>Zj ⟨d6,d7,d8,ps.length,d9,f2,f3,f4,f5,f6,f7,f8,f9,g0,g1,g2,g3,g4⟩ w;simp only[RMV.val]at a7;have g5:=Bc a7;clear a7;go_wp2_with fail;refine(Ba g5 _).mono ?_;rintro e I ⟨a,c,rfl,L,F⟩;go_wp2;go_ret;obtain rfl:=Ba a5;exact⟨a,c,rfl,L,D.trans (F.mono K)⟩
 have h8:((j[p].toNat:Int)==20)=false:=Fr;have h9:((j[p].toNat:Int)==21)=false:=Fr;have g6:=b;clear b;have z:Hid (R=[]):=by
  unfold Hid;rw[<- A];unfold Dp;rw[Pk Ck,Pk Ck,Pk Ck,Pk Ck,Pk Ck]
 clear A i0 i1 d3 d4 g6;go_wp2;go_ret;obtain rfl:=Ba z;exact⟨none,0,rfl,TyR.nil _,D⟩
def Ns (T:TI)(want:TP)(arg:Int->Int)(c:Int)(x:Bf):Option Bf :=
 if Ey T x.stack want=false then none else if x.stack.length<want.length+1 then none
 else if (x.stack.getD (x.stack.length-want.length-1) (0,0)).1≠4 then none
 else if arg (x.stack.getD (x.stack.length-want.length-1) (0,0)).2≠c then none
 else some ⟨Ci (x.stack.getD (x.stack.length-want.length-1) (0,0)) (3,c) x.locals,Ci (x.stack.getD (x.stack.length-want.length-1) (0,0)) (3,c) (x.stack.take (x.stack.length-want.length-1))⟩
def Bl5(f:RFl)(m:RMV)(c:Nat)(v:FrV)(x:Bf)(w:TW)(hf:f.ok w)(hc:c<f.l.length)(hs:m.code.size<=100000)(hv:v.is x w)(j8:x.locals.length<=1000)(j9:x.stack.length<=1000) (c6:∀t∈x.stack,t.1=4->0<=t.2/\t.2<(m.code.size:Int)):Calls prog 298 #[f.val,m.val,.i (c:Int),v.val] w fun e j => ∃u:FrV,e=.r (.tuple #[u.val,.bool (Ns f.T (Rf.all f.T (f.l.map Prod.fst) c) (fun q=>Rf.at' m.code.data.toList (q+1)) (c:Int) x).isSome])/\(∀y,Ns f.T (Rf.all f.T (f.l.map Prod.fst) c) (fun q=>Rf.at' m.code.data.toList (q+1)) (c:Int) x=some y->u.is y j)/\Bl w j:=by
 have b7:=fun j (h:Bl w j)=>Yq f.a1 f.a2 f.c1 f.ms.length f.c2 f.bb f.l c j hf.1 hc hf.2.2.2.1 (hf.below h).2.2.2.2.1;have f3:=fun K a2 n2 c2 j (h:Bl w j) h2 hw=>Vn f.v f.T x.stack K v.sa a2 v.sn v.sc n2 c2 j (RFl.fitsAs (hf.below h)) (hv.st.below h) h2 Ck hw;have c7:=fun q j hq=>Mz m q j hq hs;have f4:Ct f.l=f.T:=rfl;rw[f4]at b7;have i0:=W3 f.T (f.l.map Prod.fst) (c:Int) (by intro p hp;obtain⟨z,hz,rfl⟩:=List.mem_map.1 hp;exact hf.2.2.2.1 z hz) (c+1);have k0:(Rf.all f.T (f.l.map Prod.fst) c).length<=14000:=by unfold Rf.all;have:=hf.1;omega
 have e1:=hv.lo.cap.1;have e2:=hv.st.cap.1;have i1:=hv.st.cap.2.1;have f5:=hv.lo;have c8:=hv.st;generalize Rf.all f.T (f.l.map Prod.fst) c=K at *;generalize B:Ns f.T K (fun q=>Rf.at' m.code.data.toList (q+1)) (c:Int) x=R;unfold Ns at B;have c9:=fun a2 n2 c2 j h h2=>f3 K a2 n2 c2 j h h2 Ck;generalize Ey f.T x.stack K=TP at *;have k3:c<=13:=by have:=hf.1;omega
 clear f3 i0 f4 hf hv hc;obtain⟨f6,f7,f8,f9,bb,l,ms⟩:=f;obtain⟨cl,nm,pa,pl,pc,r1,r2,lo,st,b8,ha,hl,hc,ma,ml,mc,g0,g1⟩:=m;obtain⟨V,ln,Y,sa,sn,L⟩:=v;simp only[RMV.val,RFl.val,RFl.v,RFv.val,FrV.val]at b7 c9 c7 e1 e2 i1 f5 c8 c6 B hs ⊢;subst e1 e2;have i2:=Bc b7;have i3:=Bc c9;have g2:=Bc c7;have i4:=Bc c6;clear b7 c9 c7 c6;have d0:=U9 w (O11 f6 l.length f7 f8 ms.length f9) (O12 cl nm pa pl pc r1 r2 lo st b8 ha hl hc ma ml mc g0 g1) (O21 V x.locals.length Y sa x.stack.length L) (O21 none 0 0 none 0 0);obtain⟨F0,M0,X0,Z0⟩:=Ai w (O11 f6 l.length f7 f8 ms.length f9) (O12 cl nm pa pl pc r1 r2 lo st b8 ha hl hc ma ml mc g0 g1) (O21 V x.locals.length Y sa x.stack.length L) (O21 none 0 0 none 0 0);go_in;go_wp2_with fail;refine(Ba i2 _ d0).mono ?_;rintro e w1 ⟨wa,wc,rfl,i5,a6⟩;have d1:=QB d0 a6;have F1:=stay a6 F0;have M1:=stay a6 M0;have X1:=stay a6 X0;have Z1:=stay a6 Z0;obtain⟨f0,f1⟩:=cl2 F1;obtain⟨G,F⟩:=cl2 X1;have lF:=Sp F1;have Q:=Sp X1;simp at f0 f1 G F;clear a6 F0 M0 X0 Z0 d0;go_wp2_with fail;refine Qb (Ba i3 wa K.length wc _ d1 (TyR.of_tys i5)) d1 ?_;intro w2 a9 N;have F2:=stay a9 F1;have M2:=stay a9 M1;have X2:=stay a9 X1;have O:=stay a9 Z1;have g3:=N.size;clear f0 f1 G F lF Q;obtain⟨G,F⟩:=cl2 X2;have Q:=Sp X2;simp at G F;clear a9 F1 M1 X1 Z1 d1;by_cases h1:TP=false;·subst h1;rw[Th rfl]at B;have HE:=Bc B.symm;clear B;obtain⟨I,J⟩:=cl2 O;obtain⟨q0,q1⟩:=fr2 O;have lZ:=Sp O;simp at I J;go_wp2_with fail;refine tb (.tuple #[.agg #[.s V x.locals.length Y,.s sa x.stack.length L],.bool false]) (by simp[results,Bu3,go_sem,I,J]) ?_;obtain rfl:=Ba HE;exact⟨⟨V,x.locals.length,Y,sa,x.stack.length,L⟩,rfl,fun y hy=>by simp at hy,(N.setCell Fr _).setCell Fr _⟩
 have i6:TP=true:=by simpa using h1
 subst i6;rw[Pk Hd]at B;clear h1;by_cases h2:x.stack.length<K.length+1;·rw[Th h2]at B;have HE:=Bc B.symm;have k4:(x.stack.length:Int)-(K.length:Int)-1<0:=Ck;clear B h2;obtain⟨I,J⟩:=cl2 O;obtain⟨q0,q1⟩:=fr2 O;have lZ:=Sp O;simp at I J;go_wp2_with fail;refine tb (.tuple #[.agg #[.s V x.locals.length Y,.s sa x.stack.length L],.bool false]) (by simp[results,Bu3,go_sem,I,J]) ?_;obtain rfl:=Ba HE;exact⟨⟨V,x.locals.length,Y,sa,x.stack.length,L⟩,rfl,fun y hy=>by simp at hy,(N.setCell Fr _).setCell Fr _⟩
 rw[Pk h2]at B;obtain⟨D,i7⟩:∃D:Nat,x.stack.length=D+K.length+1:=⟨x.stack.length-K.length-1,Ck⟩;have e0:x.stack.length-K.length-1=D:=Ck;rw[e0]at B;have d2:D<x.stack.length:=Ck;have g4:x.stack.getD D (0,0)=x.stack[D]:=by simp[Vm,d2]
 rw[g4]at B;have b9:=Ba i4 _ (Brn d2);have i8:(x.stack.length:Int)-(K.length:Int)-1=(D:Int):=Ck;have k5:IntKind.i64.wrap ((x.stack.length:Int)-(K.length:Int)-1)=(D:Int):=by rw[i8];exact Cx _ Ck Ck
 have k6:(D:Int)<(x.stack.length:Int):=Ck;have k7:(D:Int)<=(L:Int):=Ck;obtain⟨gs,os,rfl,a3,g5⟩:=c8.at Ck;obtain⟨s0,s1⟩:=g5 D d2;generalize x.stack[D]=i9 at *;obtain⟨k1,k2⟩:=i9;simp only at s0 s1 B b9;have S0:Hid (∀j,Bl w j->j.C gs (os+D*2) (.i k1)/\j.C gs (os+D*2+1) (.i k2)/\gs<j.heap.size):=fun j h=>⟨(h.cell a3).trans s0,(h.cell a3).trans s1,Brs a3 h.size⟩;clear s0 s1 g5 e0 g4 h2 i7 a3;by_cases h3:k1=4
 ·subst h3;rw[Pk Hd]at B;obtain⟨g6,j0⟩:=b9 rfl;obtain⟨q,rfl⟩:=Brp g6;have hq:q<b8.size:=Ck;obtain⟨A,hA⟩:∃A,Rf.at' b8.data.toList ((q:Int)+1)=A:=⟨_,rfl⟩;simp only[hA]at B;have d3:=fun j=>Ba g2 q j hq;rw[hA]at d3;have g7:=Bc d3;clear hA d3 g6 j0 b9 g2;by_cases h4:A=(c:Int)
  ·subst h4;rw[Pk Hd]at B;have HE:=Bc B.symm;clear B;obtain⟨s0,s1,a3⟩:=Ba S0 _ N;have b0:=N.size;have R2:=Be w2 (O7 4 (q:Int));have a4:=N.alloc b0 (O7 4 (q:Int));have d4:=Bg F2 (O7 4 (q:Int));have d5:=Bg M2 (O7 4 (q:Int));have b1:=Bg X2 (O7 4 (q:Int));have b2:=Bg O (O7 4 (q:Int));have lM:=Sp M2;obtain⟨m0,m1,m2,m3,m4,m5,m6,m7,m8,m9,b3,b4⟩:=El M2;simp at m0 m1 m2 m3 m4 m5 m6 m7 m8 m9 b3 b4;go_wp2_with fail;refine Qm (Ba g7 _) ?_;intro w3 Z;have a7:=a4.trans (Z.mono a4.size);have R3:=stay Z R2;have X3:=stay Z b1;have Z3:=stay Z b2;have d6:=a7.size;clear m0 m1 m2 m3 m4 m5 m6 m7 m8 m9 b3 b4 lM G F Q s0 s1 Z F2 M2 X2 O d4 d5 b1 b2 R2 a4 g3 b0 N;obtain⟨G,F⟩:=cl2 X3;have Q:=Sp X3;have lR:=Sp R3;simp at G F;obtain⟨b5,b6⟩:=cl2 R3;simp at b5 b6;go_wp2_with fail;refine Qm (Lb (c:Int) _) ?_;intro w4 a5;have d7:=a7.trans (a5.mono d6);have g8:=d7.size;have O4:=Be w4 (O7 3 (c:Int));have c0:=d7.alloc g8 (O7 3 (c:Int));have R4:=Bg (stay a5 R3) (O7 3 (c:Int));have X4:=Bg (stay a5 X3) (O7 3 (c:Int));have Z4:=Bg (stay a5 Z3) (O7 3 (c:Int));have j1:w.heap.size+1+1+1<(w4.alloc (O7 3 (c:Int))).heap.size:=Sp Z4;have c3:=stay a5 R3;have d8:=stay a5 X3;clear b5 b6 G F Q lR a5 R3 X3 Z3 a7 d6;have G:=Bb d8 0;have b5:=Bb c3 0;have b6:=Bb c3 1;have Q:=Sp d8;have lR:=Sp c3;simp at G b5 b6;go_wp2_with fail;refine(Rl x.locals V x.locals.length Y 4 (q:Int) 3 (c:Int) _ (f5.below c0) Ck).mono ?_;rintro e w5 ⟨ta,tc,rfl,g9,a8⟩;have c4:=c0.trans (a8.mono c0.size);have j2:=c4.size;have R5:=stay a8 R4;have X5:=stay a8 X4;have Z5:=stay a8 Z4;have O5:=stay a8 O4;clear G b5 b6 Q lR a8 R4 X4 Z4 O4 c3 d8 d7 c0 g8;have F:=Bb X5 1;have r0:=Bb R5 0;have c5:=Bb R5 1;obtain⟨o0,o1⟩:=cl2 O5;have Q:=Sp X5;have lR:=Sp R5;have lO:=Sp O5;simp at F r0 c5 o0 o1;have h0:=(c8.below c4.drew).take (k:=D) Ck;have h5:(x.stack.take D).length=D:=Fr;have d9:=Rl (x.stack.take D) (some ⟨gs,os,none⟩) D L 4 (q:Int) 3 (c:Int) w5.drew h0 Ck;rw[h5]at d9;have h6:=Bc d9;clear d9 h0 h5;go_wp2
   go_region_held3 (fun j=>j.C (w.heap.size+1+1) 1 (.s (some ⟨gs,os,none⟩) x.stack.length L)/\j.C w2.heap.size 0 (.i 4)/\j.C w2.heap.size 1 (.i (q:Int))/\j.C w4.heap.size 0 (.i 3)/\j.C w4.heap.size 1 (.i (c:Int)))
    (first|exact⟨F,r0,c5,o0,o1⟩|exact⟨QC a0 Q F,QC a0 lR r0,QC a0 lR c5,QC a0 lO o0,QC a0 lO o1⟩)
    (first|(go_at_call 297;refine(Ba h6).mono ?_;rintro e w7 ⟨ua,uc,rfl,h7,a0⟩))
   have j3:=c4.drew.trans (a0.mono j2);have j4:w.heap.size+1+1+1<w5.heap.size:=Sp Z5;have h8:=Cq.kp g9 (Kp.of_below (e:=none) (show Bl w5 w7 from (Brm _ _).drew.trans a0)) Fm;have f2:=fun h9 (hb:w.heap.size+1+1+1<h9)=>(Kp.set_lo (e:=none) (b:=h9) (i:=0) (g:=w.heap.size+1+1+1) (w:=w7) hb (.s ta x.locals.length tc)).trans (Kp.set_lo (i:=1) (g:=w.heap.size+1+1+1) hb (.s ua D uc));have j5:=Cq.kp h8 (f2 _ j1) Fm;have j6:=Cq.kp h7 (f2 _ j4) Fm;have Z7:=stay a0 (show (w5.drew).heap[w.heap.size+1+1+1]?=_ from Z5);clear F r0 c5 o0 o1 Q lR lO a0 R5 X5 Z5 O5 g9 h7 h8 f2 c4 h6;obtain⟨I,J⟩:=cl2 Z7;obtain⟨q0,q1⟩:=fr2 Z7;have lZ:=Sp Z7;simp at I J;have j7:=(j3.setCell (p:=.a (w.heap.size+1+1+1) 0) Fr (.s ta x.locals.length tc)).setCell (p:=.a (w.heap.size+1+1+1) 1) Fr (.s ua D uc);go_wp2_with fail;refine tb (.tuple #[.agg #[.s ta x.locals.length tc,.s ua D uc],.bool true]) (by simp[results,Bu3,go_sem,I,J]) ?_;obtain rfl:=Ba HE;refine⟨⟨ta,x.locals.length,tc,ua,D,uc⟩,rfl,fun y hy=>?_,j7⟩;simp only[Option.some.injEq]at hy;subst hy;exact⟨Gw j5 (by simp[Ci]),Gw j6 (by simp[Ci]),by simp[Ci];omega,by simp[Ci];omega⟩
  rw[Th h4]at B;have HE:=Bc B.symm;have k8:(A != (c:Int))=true:=by simpa using h4
  clear B h4;obtain⟨s0,s1,a3⟩:=Ba S0 _ N;have b0:=N.size;have R2:=Be w2 (O7 4 (q:Int));have a4:=N.alloc b0 (O7 4 (q:Int));have d4:=Bg F2 (O7 4 (q:Int));have d5:=Bg M2 (O7 4 (q:Int));have b1:=Bg X2 (O7 4 (q:Int));have b2:=Bg O (O7 4 (q:Int));have lM:=Sp M2;obtain⟨m0,m1,m2,m3,m4,m5,m6,m7,m8,m9,b3,b4⟩:=El M2;simp at m0 m1 m2 m3 m4 m5 m6 m7 m8 m9 b3 b4;go_wp2_with fail;refine Qm (Ba g7 _) ?_;intro w3 Z;have a7:=a4.trans (Z.mono a4.size);have R3:=stay Z R2;have X3:=stay Z b1;have Z3:=stay Z b2;have d6:=a7.size;clear m0 m1 m2 m3 m4 m5 m6 m7 m8 m9 b3 b4 lM G F Q s0 s1 Z F2 M2 X2 O d4 d5 b1 b2 R2 a4 g3 b0 N;obtain⟨G,F⟩:=cl2 X3;have Q:=Sp X3;have lR:=Sp R3;simp at G F;obtain⟨I,J⟩:=cl2 Z3;obtain⟨q0,q1⟩:=fr2 Z3;have lZ:=Sp Z3;simp at I J;go_wp2_with fail;refine tb (.tuple #[.agg #[.s V x.locals.length Y,.s (some ⟨gs,os,none⟩) x.stack.length L],.bool false]) (by simp[results,Bu3,go_sem,I,J]) ?_;obtain rfl:=Ba HE;exact⟨⟨V,x.locals.length,Y,some ⟨gs,os,none⟩,x.stack.length,L⟩,rfl,fun y hy=>by simp at hy,(a7.setCell Fr _).setCell Fr _⟩
 rw[Th h3]at B;have HE:=Bc B.symm;have k9:(k1 != 4)=true:=by simpa using h3
 clear B h3 b9;obtain⟨s0,s1,a3⟩:=Ba S0 _ N;obtain⟨I,J⟩:=cl2 O;obtain⟨q0,q1⟩:=fr2 O;have lZ:=Sp O;simp at I J;go_wp2_with fail;refine tb (.tuple #[.agg #[.s V x.locals.length Y,.s (some ⟨gs,os,none⟩) x.stack.length L],.bool false]) (by simp[results,Bu3,go_sem,I,J,lZ]) ?_;obtain rfl:=Ba HE;exact⟨⟨V,x.locals.length,Y,some ⟨gs,os,none⟩,x.stack.length,L⟩,rfl,fun y hy=>by simp at hy,((N.setCell Fr _).setCell Fr _).alloc Fr _⟩
def D7 (T:TI)(F:List Rf.Fld)(ms:List Rd.Mth)(want:Int->TP)(arg:Int->Int)(res:Int × Int)(p op n:Int)(x:Bf):Option Bf :=
 if op=2 then (if (x.locals.getD n.toNat (0,0)).1=0 then none else some ⟨x.locals,x.stack++[x.locals.getD n.toNat (0,0)]⟩)
 else if op=3 then (if x.stack.length<1 then none else some ⟨x.locals.set n.toNat (x.stack.getD (x.stack.length-1) (0,0)),x.stack.take (x.stack.length-1)⟩)
 else if op=4 then (if x.stack.length<1 then none else some ⟨x.locals,x.stack.take (x.stack.length-1)⟩)
 else if op=5 then (if x.stack.length<1 then none else some ⟨x.locals,x.stack++x.stack.drop (x.stack.length-1)⟩)
 else if op=6 then (if x.stack.length<2 then none else some ⟨x.locals,x.stack.take (x.stack.length-2)++[x.stack.getD (x.stack.length-1) (0,0),x.stack.getD (x.stack.length-2) (0,0)]⟩)
 else if op=15 then some ⟨Ci (4,p) (0,0) x.locals,Ci (4,p) (0,0) x.stack++[(4,p)]⟩
 else if op=16 then Ns T (want n) arg n x
 else if Ey T x.stack (Co F ms res op n)=false then none
 else some ⟨x.locals,x.stack.take (x.stack.length-(Co F ms res op n).length)++Dp F ms op n⟩
def Vj(l:TP)(q:Nat)(b c:Int):Bp (l.set q (b,c))=((Bp l).set (q*2) (.i b)).set (q*2+1) (.i c):=by
 induction l generalizing q with
 | nil=>simp[Bp]
 | cons x r ih =>
  have e:∀(y:Int×Int) (s:TP),Bp (y::s)=.i y.1::.i y.2::Bp s:=fun y s=>by simp[Bp]
  cases q with
  | zero=>rw[Bvs,e,e];rfl
  | succ j=>rw[Bsp,e,e,ih,show (j+1)*2=j*2+1+1 by omega];rfl
def Sm{w:TW}{u:Nat}{a:TA}{n t:Nat}{q:TP}(h:Cq w u (.s a n t) q){O:Nat}(B:O<q.length)(j m:Int):∃g,a=some ⟨g,0,none⟩/\g<w.heap.size/\u<=g/\w.C g (O*2) (.i q[O].1)/\w.C g (O*2+1) (.i q[O].2)/\w.frozen? (.a g (O*2))=false/\w.frozen? (.a g (O*2+1))=false/\Cq ((w.setCell (.a g (O*2)) (.i j)).setCell (.a g (O*2+1)) (.i m)) u (.s a n t) (q.set O (j,m)):=by
 obtain⟨K,L,p,_,D⟩:=(TyR.of_tys h).at Ck;obtain⟨N,⟨f,Q⟩|⟨g,V,Y,f,v,e,F,G,I,J⟩⟩:=h
 ·omega
 simp only[Value.slice.injEq]at f;obtain⟨rfl,rfl,rfl⟩:=f;simp only[Option.some.injEq,Addr.mk.injEq]at p;obtain⟨rfl,rfl,-⟩:=p;obtain⟨z,A⟩:=D O B;simp only[Brz]at z A;refine⟨g,rfl,Sp e,v,z,A,Bk e _,Bk e _,?_⟩;refine⟨by rw[Jm],.inr ⟨g,t,_,by rw[Bsl],v,Bt (Bt e _) _,by rw[Bsl];exact F,G,by simpa using I,?_⟩⟩;rw[Bsl,Vj,<- J];simp only[Bux];rw[Bvy,Bvy]
def TyR.addr{w:TW}{a:TA}{n b:Nat}{q:TP}(h:TyR w (.s a n b) q):(a=none/\b=0)\/∃g o,a=some ⟨g,o,none⟩:=by
 rcases h with ⟨e,-⟩|⟨g,o,i,j,f,-⟩
 ·simp only[Value.slice.injEq]at e;exact .inl ⟨e.1,e.2.2⟩
 simp only[Value.slice.injEq]at f;exact .inr ⟨g,o,f.1⟩
def TyR.set_frame{w:TW}{l:TX}{q:TP}{u:Nat}{g J:TA}{b t O K:Nat}{ty:TypeId}(h:TyR w l q)(A:w.heap[u]?=some (.cells #[.s g b t,.s J O K] ty (0,0)))(s f:TX):TyR ((w.setCell (.a u 0) s).setCell (.a u 1) f) l q:=by
 rcases h with h|⟨m,o,c,L,N,D,Q,V,F⟩
 ·exact .inl h
 obtain⟨B,Y⟩:∃B,((w.setCell (.a u 0) s).setCell (.a u 1) f).heap[m]?=some (.cells B 31 (0,0)):=by
  by_cases e:m=u;·subst e;have G:=D.symm.trans A;simp only[Option.some.injEq,Obj.cells.injEq]at G;obtain⟨_,rfl,_⟩:=G;exact⟨_,Bt (Bt A s) f⟩
  exact⟨L,((Brk _ _ _ _ (by simpa using e)).trans (Brk _ _ _ _ (by simpa using e))).trans D⟩
 refine .inr ⟨m,o,c,B,N,Y,Q,V,fun j x C=>?_⟩;have I:m≠u:=by
  intro e;subst e;have p:=F j x C;rw[Bb A]at p;have Z:∃k,x=Value.int .i64 k:=by
   have:=Bs6 C;simp only[Bp,List.mem_flatMap,Bub,Buh,Bv8]at this;obtain⟨y,_,rfl|rfl⟩:=this<;>exact⟨_,rfl⟩
  obtain⟨k,rfl⟩:=Z;generalize o+j=i at p
  match i,p with
  | 0,p=>simp at p
  | 1,p=>simp at p
  | i+2,p=>simp at p
 rw[Bu2 _ _ _ _ (by intro e;exact I (congrArg Addr.block e).symm),Bu2 _ _ _ _ (by intro e;exact I (congrArg Addr.block e).symm)];exact F j x C
def Bi4(F:List Rf.Fld)(b:List Rd.Mth)(e:∀m∈b,m.params.length<=1000)(c:Int×Int)(op n:Int):(Co F b c op n).length<=1001:=by
 have f:(b.getD n.toNat ⟨0,0,[],(0,0),0,0,[],[],[]⟩).params.length<=1000:=by
  rw[Vm];by_cases h:n.toNat<b.length;·rw[Brl h];exact e _ (Brn h)
  rw[Bs3 Ck];simp
 have g:(Ds c).length<=1:=by unfold Ds;split<;>simp
 unfold Co
 split
 ·simp
 split
 ·simp
 split
 ·simp
 split
 ·simp
 split
 ·simp
 split
 ·omega
 split
 ·simp only[Br7];omega
 split
 ·omega
 split<;>simp
def Zy(F:List Rf.Fld)(c:List Rd.Mth)(op n:Int):(Dp F c op n).length<=1:=by
 have e:∀b,(Ds b).length<=1:=fun b=>by unfold Ds;split<;>simp
 unfold Dp
 split
 ·simp
 split
 ·simp
 split
 ·simp
 split
 ·simp
 split
 ·exact e _
 simp
def Bgv(f:RFl)(m:RMV)(p:Nat)(v:FrV)(x:Bf)(w:TW)(hf:f.ok w)(hp:p<m.code.size)(hs:m.code.size<=100000)(hv:v.is x w)(p3:x.locals.length<=1000)(p4:x.stack.length<=1000) (k8:∀t∈x.stack,t.1=4->0<=t.2/\t.2<(m.code.size:Int))(g7:∀x∈f.ms,x.1.m.params.length<=1000) (i8:(Ca m.code).getD p 0=17\/(Ca m.code).getD p 0=18->0<=Rf.at' m.code.data.toList ((p:Int)+1)/\Rf.at' m.code.data.toList ((p:Int)+1)<(f.fields.length:Int)) (i9:(Ca m.code).getD p 0=20\/(Ca m.code).getD p 0=21->0<=Rf.at' m.code.data.toList ((p:Int)+1)/\Rf.at' m.code.data.toList ((p:Int)+1)<(f.ms.length:Int)) (g8:(Ca m.code).getD p 0=2\/(Ca m.code).getD p 0=3->0<=Rf.at' m.code.data.toList ((p:Int)+1)/\Rf.at' m.code.data.toList ((p:Int)+1)<(x.locals.length:Int)) (g9:(Ca m.code).getD p 0=16->0<=Rf.at' m.code.data.toList ((p:Int)+1)/\Rf.at' m.code.data.toList ((p:Int)+1)<(f.l.length:Int)):Calls prog 275 #[f.val,m.val,.i (p:Int),v.val] w fun e A => ∃u:FrV,e=.r (.tuple #[u.val,.bool (D7 f.T f.fields (f.ms.map fun x=>x.1.m) (fun c=>Rf.all f.T (f.l.map Prod.fst) c.toNat) (fun q=>Rf.at' m.code.data.toList (q+1)) (m.r1,m.r2) (p:Int) ((Ca m.code).getD p 0) (Rf.at' m.code.data.toList ((p:Int)+1)) x).isSome])/\(∀y,D7 f.T f.fields (f.ms.map fun x=>x.1.m) (fun c=>Rf.all f.T (f.l.map Prod.fst) c.toNat) (fun q=>Rf.at' m.code.data.toList (q+1)) (m.r1,m.r2) (p:Int) ((Ca m.code).getD p 0) (Rf.at' m.code.data.toList ((p:Int)+1)) x=some y->u.is y A)/\Bl w A:=by
 have h0:=fun A (h:Bl w A)=>Zg f m p A (hf.below h) hp hs g7 i8 i9;have h1:=fun A (h:Bl w A)=>Bep f m p A (hf.below h) hp hs g7 i8 i9;have j0:=fun (c:Nat) A (h:Bl w A) hc=>Bl5 f m c v x A (hf.below h) hc hs (hv.below h) p3 p4 k8;have j1:=fun p5 a2 n2 c2 A (h:Bl w A) h2 hw=>Vn f.v f.T x.stack p5 v.sa a2 v.sn v.sc n2 c2 A (RFl.fitsAs (hf.below h)) (hv.st.below h) h2 Ck hw;rw[Kq _ _ hp]at g8 g9 h0 h1 ⊢;have j2:(Co f.fields (f.ms.map fun x=>x.1.m) (m.r1,m.r2) (m.code[p].toNat:Int) (Rf.at' m.code.data.toList ((p:Int)+1))).length<=1001:=Bi4 _ _ (by intro y Q;obtain⟨z,hz,rfl⟩:=List.mem_map.1 Q;exact g7 z hz) _ _ _;have j3:(Dp f.fields (f.ms.map fun x=>x.1.m) (m.code[p].toNat:Int) (Rf.at' m.code.data.toList ((p:Int)+1))).length<=1:=Zy _ _ _ _;have j4:=fun w=>Mz m p w hp hs;have e1:=hv.lo.cap.1;have e2:=hv.st.cap.1;have p6:=hv.st.cap.2.1;have d5:=hv.lo;have c3:=hv.st;generalize a3:D7 f.T f.fields (f.ms.map fun x=>x.1.m) (fun c=>Rf.all f.T (f.l.map Prod.fst) c.toNat) (fun q=>Rf.at' m.code.data.toList (q+1)) (m.r1,m.r2) (p:Int) (m.code[p].toNat:Int) (Rf.at' m.code.data.toList ((p:Int)+1)) x=R;generalize Rf.at' m.code.data.toList ((p:Int)+1)=n at *;have p7:(p:Int)<(m.code.size:Int):=Ck;have r9:∀c:UInt8,IntKind.i64.wrap (c.toNat:Int)=(c.toNat:Int):=fun c=>Cx _ Ck (by have:=c.toNat_lt;omega);clear hf hv i8 i9 g7 k8;obtain⟨d7,d8,d9,f2,bb,l,ms⟩:=f;obtain⟨cl,nm,pa,pl,pc,r1,r2,lo,st,b2,ha,hl,hc,ma,ml,mc,k9,l0⟩:=m;obtain⟨N,ln,G,sa,sn,J⟩:=v;simp only[RMV.val,RFl.val,RFl.v,RFv.val,FrV.val]at h0 h1 j0 j1 j2 j3 j4 e1 e2 p6 d5 c3 g8 g9 a3 hp p7 hs ⊢;subst e1 e2;have p8:=Bc j2;have p9:=Bc j3;have h3:=Bc h0;have h4:=Bc h1;have l1:=Bc j0;have l2:=Bc j1;have q2:=Bc j4;have l3:=Bc g8;have q3:=Bc g9;clear h0 h1 j0 j1 j4 g8 g9 j2 j3;have l4:=U9 w (O11 d7 l.length d8 d9 ms.length f2) (O12 cl nm pa pl pc r1 r2 lo st b2 ha hl hc ma ml mc k9 l0) (O21 N x.locals.length G sa x.stack.length J) (O21 none 0 0 none 0 0);obtain⟨F0,M0,X0,Z0⟩:=Ai w (O11 d7 l.length d8 d9 ms.length f2) (O12 cl nm pa pl pc r1 r2 lo st b2 ha hl hc ma ml mc k9 l0) (O21 N x.locals.length G sa x.stack.length J) (O21 none 0 0 none 0 0);go_in;go_wp2_with fail;refine Qb (Ba q2 _) l4 ?_;intro F g2 a5;have f3:=a5.size;have F1:=stay g2 F0;have M1:=stay g2 M0;have X1:=stay g2 X0;have Z1:=stay g2 Z0;obtain⟨f0,f1⟩:=cl2 F1;obtain⟨x0,x1⟩:=cl2 X1;obtain⟨z0,z1⟩:=cl2 Z1;obtain⟨q0,q1⟩:=fr2 Z1;have lF:=Sp F1;have lM:=Sp M1;have lX:=Sp X1;have lZ:=Sp Z1;obtain⟨m0,m1,m2,m3,m4,m5,m6,m7,m8,m9,b8,b9⟩:=El M1;simp at f0 f1 x0 x1 z0 z1 m0 m1 m2 m3 m4 m5 m6 m7 m8 m9 b8 b9;clear g2 F0 M0 X0 Z0 l4;by_cases V:(b2[p].toNat:Int)=2
 ·have hq:=Ba l3 (by rw[V];simp);obtain⟨q,rfl⟩:=Brp hq.1;have g0:q<x.locals.length:=Ck;have q4:(q:Int)<(x.locals.length:Int):=Ck;obtain⟨gl,ol,rfl,h5,c4⟩:=d5.at Ck;obtain⟨s0,s1⟩:=c4 q g0;have d1:x.locals.getD q (0,0)=x.locals[q]:=by simp[Vm,g0]
  have c7:R=(if (x.locals[q]).1=0 then none else some ⟨x.locals,x.stack++[x.locals[q]]⟩):=by rw[<- a3];unfold D7;rw[V];simp[-List.getD_eq_getElem?_getD,d1]
  generalize x.locals[q]=tt at *;obtain⟨B,D⟩:=tt;simp only at s0 s1 c7;have S0:Hid (∀A,Bl w A->A.C gl (ol+q*2) (.i B)/\A.C gl (ol+q*2+1) (.i D)/\gl<A.heap.size):=fun A h=>⟨(h.cell h5).trans s0,(h.cell h5).trans s1,Brs h5 h.size⟩;clear s0 s1 c4 d1 h5 a3;obtain⟨b,s4,l5⟩:∃b,(B != 0)=b/\R=(if b=true then some ⟨x.locals,x.stack++[(B,D)]⟩ else none):=⟨_,rfl,by rw[c7];by_cases ht:B=0<;>simp[ht]⟩
  have HE:=Bc l5;clear c7 l5;have tA:=Be F (O7 B D);have h6:=Bg Z1 (O7 B D);have j5:=Bg X1 (O7 B D);have a6:(F.alloc (O7 B D)).C (w.heap.size+1+1) 0 (.s (some ⟨gl,ol,none⟩) x.locals.length G):=(Bb j5 0).trans rfl;have a7:(F.alloc (O7 B D)).C (w.heap.size+1+1) 1 (.s sa x.stack.length J):=(Bb j5 1).trans rfl;have a9:w.heap.size+1+1<(F.alloc (O7 B D)).drew.heap.size:=Sp j5;have h7:(F.alloc (O7 B D)).C F.heap.size 0 (.i B):=(Bb tA 0).trans rfl;have h8:(F.alloc (O7 B D)).C F.heap.size 1 (.i D):=(Bb tA 1).trans rfl;have g1:F.heap.size<(F.alloc (O7 B D)).drew.heap.size:=Sp tA;obtain⟨s0,s1,s5⟩:=Ba S0 _ a5;have b4:Bl w ((F.alloc (O7 B D)).alloc (O7 B D)).drew:=((a5.alloc f3 _).alloc Fr _).drew;have ZA:((F.alloc (O7 B D)).alloc (O7 B D)).drew.heap[w.heap.size+1+1+1]?=some (O21 none 0 0 none 0 0):=Bg h6 (O7 B D);have f4:TyR ((F.alloc (O7 B D)).alloc (O7 B D)).drew (.s (.p ((F.alloc (O7 B D)).heap.size)) 1 1) [(B,D)]:=(TyR.new1 (F.alloc (O7 B D)) B D).below (Brm _ _).drew;have b0:Calls prog 296 #[.s sa x.stack.length J,.s (.p (F.heap.size+1)) 1 1] ((F.alloc (O7 B D)).alloc (O7 B D)).drew fun e A =>
    ∃a c,e=.r (.s a (x.stack.length+1) c)/\Cq A ((F.alloc (O7 B D)).alloc (O7 B D)).drew.heap.size (.s a (x.stack.length+1) c) (x.stack++[(B,D)])/\Bl ((F.alloc (O7 B D)).alloc (O7 B D)).drew A:=by
   have h:=My (x.stack) ([(B,D)]) sa (.p (F.heap.size+1)) x.stack.length J 1 1 ((F.alloc (O7 B D)).alloc (O7 B D)).drew (c3.below b4) (by simpa using f4) Fr;simpa using h
  have c8:=Bc b0;clear b0;clear f4;go_wp2
  go_region_held3 (fun A=>A.C (w.heap.size+1+1) 0 (.s (some ⟨gl,ol,none⟩) x.locals.length G)/\A.C (w.heap.size+1+1) 1 (.s sa x.stack.length J)/\A.C F.heap.size 0 (.i B)/\A.C F.heap.size 1 (.i D))
   (first|exact⟨a6,a7,h7,h8⟩|exact⟨QA a9 a6,QA a9 a7,QA g1 h7,QA g1 h8⟩|exact⟨QC I Bd (QA a9 a6),QC I Bd (QA a9 a7),QC I Bd (QA g1 h7),QC I Bd (QA g1 h8)⟩|exact⟨(Brt _ _ _ _ Bd).trans ((Brt _ _ _ _ Bd).trans (QC I Bd (QA a9 a6))),(Brt _ _ _ _ Bd).trans ((Brt _ _ _ _ Bd).trans (QC I Bd (QA a9 a7))),(Brt _ _ _ _ Bd).trans ((Brt _ _ _ _ Bd).trans (QC I Bd (QA g1 h7))),(Brt _ _ _ _ Bd).trans ((Brt _ _ _ _ Bd).trans (QC I Bd (QA g1 h8)))⟩)
   (first|(go_at_call 296;refine(Ba c8).mono ?_;rintro e w7 ⟨Z,uc,rfl,d3,I⟩;have Z7:=stay I ZA;have b5:=Bb Z7 0;have b6:=Bb Z7 1;have g3:=Bk Z7 0;have g4:=Bk Z7 1;simp at b5 b6))
  have d4:=QB b4 I;have lb:=Sp ZA;have c9:=(Kp.set_lo (e:=none) (i:=0) (g:=w.heap.size+1+1+1) (w:=w7) lb (.s (some ⟨gl,ol,none⟩) x.locals.length G)).trans (Kp.set_lo (i:=1) (g:=w.heap.size+1+1+1) lb (.s Z (x.stack.length+1) uc));have d0:=Cq.kp d3 c9 Fm;have a0:=(d4.setCell (p:=.a (w.heap.size+1+1+1) 0) Fr (.s (some ⟨gl,ol,none⟩) x.locals.length G)).setCell (p:=.a (w.heap.size+1+1+1) 1) Fr (.s Z (x.stack.length+1) uc);go_wp2_with fail;refine tb (.tuple #[.agg #[.s (some ⟨gl,ol,none⟩) x.locals.length G,.s Z (x.stack.length+1) uc],.bool b]) (by simp[results,Bsy,go_sem,b5,b6]) ?_;obtain rfl:=Ba HE;cases b
  ·exact⟨⟨some ⟨gl,ol,none⟩,x.locals.length,G,Z,(x.stack.length+1),uc⟩,rfl,fun y Q=>by simp at Q,a0⟩
  refine⟨⟨some ⟨gl,ol,none⟩,x.locals.length,G,Z,(x.stack.length+1),uc⟩,rfl,fun y Q=>?_,a0⟩;simp at Q;subst Q;exact⟨d5.below a0,Gw d0 Bd,Bd,Bd⟩
 have n2:((b2[p].toNat:Int)==2)=false:=Fr;have i2:=V;clear V;by_cases V:(b2[p].toNat:Int)=3
 ·have hq:=Ba l3 (by rw[V];simp);obtain⟨q,rfl⟩:=Brp hq.1;have g0:q<x.locals.length:=Ck;have q4:(q:Int)<(x.locals.length:Int):=Ck;by_cases c5:x.stack.length<1
  ·have HE:Hid (R=none):=by unfold Hid;rw[<- a3];unfold D7;rw[V];simp[c5]
   have f8:(x.stack.length:Int)<1:=Ck;clear a3 c5;go_wp2_with fail;refine tb (.tuple #[.agg #[.s N x.locals.length G,.s sa x.stack.length J],.bool false]) (by simp[results,Bsy,go_sem,z0,z1]) ?_;obtain rfl:=Ba HE;exact⟨⟨N,x.locals.length,G,sa,x.stack.length,J⟩,rfl,fun y Q=>by simp at Q,(a5.setCell Fr _).setCell Fr _⟩
  obtain⟨j,hh⟩:∃j:Nat,x.stack.length=j+1:=⟨x.stack.length-1,Ck⟩;have c6:j<x.stack.length:=Ck;have d1:x.stack.getD (x.stack.length-1) (0,0)=x.stack[j]:=by
   rw[show x.stack.length-1=j by omega];simp[Vm,c6]
  obtain⟨L,O,rfl,b1,c4⟩:=c3.at Ck;obtain⟨s0,s1⟩:=c4 j c6;have HE:Hid (R=some ⟨x.locals.set q (x.stack[j]),x.stack.take j⟩):=by
   unfold Hid;rw[<- a3];unfold D7;rw[V,Pk Ck,Th rfl,Pk Ck,d1,show x.stack.length-1=j by omega];rfl
  generalize x.stack[j]=tt at *;obtain⟨B,D⟩:=tt;simp only at s0 s1;have S0:Hid (∀A,Bl w A->A.C L (O+j*2) (.i B)/\A.C L (O+j*2+1) (.i D)/\L<A.heap.size):=fun A h=>⟨(h.cell b1).trans s0,(h.cell b1).trans s1,Brs b1 h.size⟩;have j6:IntKind.i64.wrap ((x.stack.length:Int)-1)=(j:Int):=by rw[show (x.stack.length:Int)-1=(j:Int) by omega];exact Cx _ Ck Ck
  have j7:(x.stack.length:Int)-1=(j:Int):=Ck;have j8:(j:Int)<(x.stack.length:Int):=Ck;have h9:(j:Int)<=(J:Int):=Ck;have d6:j<=x.stack.length:=Ck;have f8:¬(x.stack.length:Int)<1:=Ck;have l6:x.stack.length-j=1:=Ck;have j9:IntKind.i64.wrap (j:Int)=(j:Int):=Cx _ Ck Ck;have l7:¬J=j:=Ck;clear s0 s1 c4 d1 b1 c5 a3 hh c6;have b0:Calls prog 296 #[.s N x.locals.length G,.s none 0 0] F fun e A=>∃a c,e=.r (.s a x.locals.length c)/\Cq A F.heap.size (.s a x.locals.length c) x.locals/\Bl F A:=by
   have h:=My x.locals [] N none x.locals.length G 0 0 F (d5.below a5) (TyR.nil _) Fr;simpa using h
  have c8:=Bc b0;clear b0;go_wp2_with fail;refine(Ba c8).mono ?_;rintro e w2 ⟨ta,tc,rfl,k0,Y⟩;have a8:=a5.trans (Y.mono f3);have f5:=a8.size;have X2:=stay Y X1;have Z2:=stay Y Z1;obtain⟨gt,rfl,s6,s7,s8,s9,t3,t4,q5⟩:=Sm k0 g0 B D;have t5:gt≠w.heap.size+1+1:=Ck;have t6:w.heap.size+1+1≠gt:=Ck;have t7:gt≠w.heap.size+1+1+1:=Ck;have t8:w.heap.size+1+1+1≠gt:=Ck;obtain⟨s0,s1,l8⟩:=Ba S0 _ a8;clear f0 f1 x0 x1 z0 z1 q0 q1 lF lM lX m0 m1 m2 m3 m4 m5 m6 m7 m8 m9 b8 b9 c8;have x1:=Bb X2 1;obtain⟨z0,z1⟩:=cl2 Z2;obtain⟨q0,q1⟩:=fr2 Z2;have lX:=Sp X2;have q6:=Sp Z2;simp at x1 z0 z1;have c0:=(a8.setCell (p:=.a gt (q*2)) Fr (.i B)).setCell (p:=.a gt (q*2+1)) Fr (.i D);have a0:=(c0.setCell (p:=.a (w.heap.size+1+1+1) 0) Fr (.s (.p gt) x.locals.length tc)).setCell (p:=.a (w.heap.size+1+1+1) 1) Fr (.s (some ⟨L,O,none⟩) j J);have c9:=(Kp.set_lo (e:=none) (b:=F.heap.size) (i:=0) (g:=w.heap.size+1+1+1) (w:=(w2.setCell (.a gt (q*2)) (.i B)).setCell (.a gt (q*2+1)) (.i D)) lZ (.s (.p gt) x.locals.length tc)).trans (Kp.set_lo (i:=1) (g:=w.heap.size+1+1+1) lZ (.s (some ⟨L,O,none⟩) j J));have d0:=Cq.kp q5 c9 Fm;go_wp2_with fail;refine tb (.tuple #[.agg #[.s (.p gt) x.locals.length tc,.s (some ⟨L,O,none⟩) j J],.bool true]) (by simp[results,Bsy,go_sem,z0,z1]) ?_;obtain rfl:=Ba HE;refine⟨⟨some ⟨gt,0,none⟩,x.locals.length,tc,some ⟨L,O,none⟩,j,J⟩,rfl,fun y Q=>?_,a0⟩;simp only[Option.some.injEq]at Q;subst Q;exact⟨Gw d0 Hd,(c3.take d6).below a0,Fr,Fr⟩
 have n3:((b2[p].toNat:Int)==3)=false:=Fr;have i3:=V;clear V;by_cases V:(b2[p].toNat:Int)=4
 ·by_cases c5:x.stack.length<1
  ·have HE:Hid (R=none):=by unfold Hid;rw[<- a3];unfold D7;rw[V];simp[c5]
   have f8:(x.stack.length:Int)<1:=Ck;clear a3 c5;go_wp2_with fail;refine tb (.tuple #[.agg #[.s N x.locals.length G,.s sa x.stack.length J],.bool false]) (by simp[results,Bsy,go_sem,z0,z1]) ?_;obtain rfl:=Ba HE;exact⟨⟨N,x.locals.length,G,sa,x.stack.length,J⟩,rfl,fun y Q=>by simp at Q,(a5.setCell Fr _).setCell Fr _⟩
  obtain⟨j,hh⟩:∃j:Nat,x.stack.length=j+1:=⟨x.stack.length-1,Ck⟩;have c6:j<x.stack.length:=Ck;have d1:x.stack.getD (x.stack.length-1) (0,0)=x.stack[j]:=by
   rw[show x.stack.length-1=j by omega];simp[Vm,c6]
  obtain⟨L,O,rfl,b1,c4⟩:=c3.at Ck;obtain⟨s0,s1⟩:=c4 j c6;have HE:Hid (R=some ⟨x.locals,x.stack.take j⟩):=by
   unfold Hid;rw[<- a3];unfold D7;rw[V,Pk Ck,Pk Ck,Th rfl,Pk Ck,show x.stack.length-1=j by omega]
  generalize x.stack[j]=tt at *;obtain⟨B,D⟩:=tt;simp only at s0 s1;have S0:Hid (∀A,Bl w A->A.C L (O+j*2) (.i B)/\A.C L (O+j*2+1) (.i D)/\L<A.heap.size):=fun A h=>⟨(h.cell b1).trans s0,(h.cell b1).trans s1,Brs b1 h.size⟩;have j6:IntKind.i64.wrap ((x.stack.length:Int)-1)=(j:Int):=by rw[show (x.stack.length:Int)-1=(j:Int) by omega];exact Cx _ Ck Ck
  have j7:(x.stack.length:Int)-1=(j:Int):=Ck;have j8:(j:Int)<(x.stack.length:Int):=Ck;have h9:(j:Int)<=(J:Int):=Ck;have d6:j<=x.stack.length:=Ck;have f8:¬(x.stack.length:Int)<1:=Ck;have l6:x.stack.length-j=1:=Ck;have j9:IntKind.i64.wrap (j:Int)=(j:Int):=Cx _ Ck Ck;have l7:¬J=j:=Ck;clear s0 s1 c4 d1 b1 c5 a3 hh c6;have a0:=((a5.drew.setCell (p:=.a (w.heap.size+1+1+1) 0) Fr (.s N x.locals.length G)).setCell (p:=.a (w.heap.size+1+1+1) 1) Fr (.s (some ⟨L,O,none⟩) j J));go_wp2
  go_region
  go_wp2_with fail;refine tb (.tuple #[.agg #[.s N x.locals.length G,.s (some ⟨L,O,none⟩) j J],.bool true]) (by simp[results,Bsy,go_sem,z0,z1]) ?_;obtain rfl:=Ba HE;refine⟨⟨N,x.locals.length,G,some ⟨L,O,none⟩,j,J⟩,rfl,fun y Q=>?_,⟨a0.os,a0.tape,a0.output,a0.size,a0.block⟩⟩;simp only[Option.some.injEq]at Q;subst Q;have l9:Bl w _:=⟨a0.os,a0.tape,a0.output,a0.size,a0.block⟩;exact⟨d5.below l9,(c3.take d6).below l9,Bd,Fr⟩
 have n4:((b2[p].toNat:Int)==4)=false:=Fr;have i4:=V;clear V;by_cases V:(b2[p].toNat:Int)=5
 ·by_cases c5:x.stack.length<1
  ·have HE:Hid (R=none):=by unfold Hid;rw[<- a3];unfold D7;rw[V];simp[c5]
   have f8:(x.stack.length:Int)<1:=Ck;clear a3 c5;go_wp2_with fail;refine tb (.tuple #[.agg #[.s N x.locals.length G,.s sa x.stack.length J],.bool false]) (by simp[results,Bsy,go_sem,z0,z1]) ?_;obtain rfl:=Ba HE;exact⟨⟨N,x.locals.length,G,sa,x.stack.length,J⟩,rfl,fun y Q=>by simp at Q,(a5.setCell Fr _).setCell Fr _⟩
  obtain⟨j,hh⟩:∃j:Nat,x.stack.length=j+1:=⟨x.stack.length-1,Ck⟩;have c6:j<x.stack.length:=Ck;have d1:x.stack.getD (x.stack.length-1) (0,0)=x.stack[j]:=by
   rw[show x.stack.length-1=j by omega];simp[Vm,c6]
  obtain⟨L,O,rfl,b1,c4⟩:=c3.at Ck;obtain⟨s0,s1⟩:=c4 j c6;have HE:Hid (R=some ⟨x.locals,x.stack++x.stack.drop j⟩):=by
   unfold Hid;rw[<- a3];unfold D7;rw[V,Pk Ck,Pk Ck,Pk Ck,Th rfl,Pk Ck,show x.stack.length-1=j by omega]
  generalize x.stack[j]=tt at *;obtain⟨B,D⟩:=tt;simp only at s0 s1;have S0:Hid (∀A,Bl w A->A.C L (O+j*2) (.i B)/\A.C L (O+j*2+1) (.i D)/\L<A.heap.size):=fun A h=>⟨(h.cell b1).trans s0,(h.cell b1).trans s1,Brs b1 h.size⟩;have j6:IntKind.i64.wrap ((x.stack.length:Int)-1)=(j:Int):=by rw[show (x.stack.length:Int)-1=(j:Int) by omega];exact Cx _ Ck Ck
  have j7:(x.stack.length:Int)-1=(j:Int):=Ck;have j8:(j:Int)<(x.stack.length:Int):=Ck;have h9:(j:Int)<=(J:Int):=Ck;have d6:j<=x.stack.length:=Ck;have f8:¬(x.stack.length:Int)<1:=Ck;have l6:x.stack.length-j=1:=Ck;have j9:IntKind.i64.wrap (j:Int)=(j:Int):=Cx _ Ck Ck;have l7:¬J=j:=Ck;clear s0 s1 c4 d1 b1 c5 a3 hh c6;have a6:F.C (w.heap.size+1+1) 0 (.s N x.locals.length G):=(Bb X1 0).trans rfl;have a7:F.C (w.heap.size+1+1) 1 (.s (some ⟨L,O,none⟩) x.stack.length J):=(Bb X1 1).trans rfl;have a9:w.heap.size+1+1<F.drew.heap.size:=Sp X1;have b4:Bl w F.drew:=a5.drew;have ZA:F.drew.heap[w.heap.size+1+1+1]?=some (O21 none 0 0 none 0 0):=Z1;have n0:TyR F.drew (.s (some ⟨L,O+j*2,none⟩) 1 (J-j)) (x.stack.drop j):=(c3.below b4).drop d6 Ck rfl;have i0:(x.stack.drop j).length=1:=Fr;have b0:Calls prog 296 #[.s (some ⟨L,O,none⟩) x.stack.length J,.s (some ⟨L,O+j*2,none⟩) 1 (J-j)] F.drew fun e A =>
    ∃a c,e=.r (.s a (x.stack.length+1) c)/\Cq A F.drew.heap.size (.s a (x.stack.length+1) c) (x.stack++x.stack.drop j)/\Bl F.drew A:=by
   have h:=My (x.stack) (x.stack.drop j) (some ⟨L,O,none⟩) (some ⟨L,O+j*2,none⟩) x.stack.length J 1 (J-j) F.drew (c3.below b4) (n0) (by rw[i0];omega);rw[i0]at h;exact h
  have c8:=Bc b0;clear b0;clear n0;go_wp2
  go_region_held3 (fun A=>A.C (w.heap.size+1+1) 0 (.s N x.locals.length G)/\A.C (w.heap.size+1+1) 1 (.s (some ⟨L,O,none⟩) x.stack.length J))
   (first|exact⟨a6,a7⟩|exact⟨QC I Bd (a6),QC I Bd (a7)⟩|exact⟨(Brt _ _ _ _ Bd).trans ((Brt _ _ _ _ Bd).trans (QC I Bd (a6))),(Brt _ _ _ _ Bd).trans ((Brt _ _ _ _ Bd).trans (QC I Bd (a7)))⟩)
   (first|(go_at_call 296;refine(Ba c8).mono ?_;rintro e w7 ⟨Z,uc,rfl,d3,I⟩;have Z7:=stay I ZA;have b5:=Bb Z7 0;have b6:=Bb Z7 1;have g3:=Bk Z7 0;have g4:=Bk Z7 1;simp at b5 b6))
  have d4:=QB b4 I;have lb:=Sp ZA;have c9:=(Kp.set_lo (e:=none) (i:=0) (g:=w.heap.size+1+1+1) (w:=w7) lb (.s N x.locals.length G)).trans (Kp.set_lo (i:=1) (g:=w.heap.size+1+1+1) lb (.s Z (x.stack.length+1) uc));have d0:=Cq.kp d3 c9 Fm;have a0:=(d4.setCell (p:=.a (w.heap.size+1+1+1) 0) Fr (.s N x.locals.length G)).setCell (p:=.a (w.heap.size+1+1+1) 1) Fr (.s Z (x.stack.length+1) uc);go_wp2_with fail;refine tb (.tuple #[.agg #[.s N x.locals.length G,.s Z (x.stack.length+1) uc],.bool true]) (by simp[results,Bsy,go_sem,b5,b6]) ?_;obtain rfl:=Ba HE;refine⟨⟨N,x.locals.length,G,Z,(x.stack.length+1),uc⟩,rfl,fun y Q=>?_,a0⟩;simp only[Option.some.injEq]at Q;subst Q;exact⟨d5.below a0,Gw d0 (by rw[Ws,i0]),Bd,by rw[Ws,i0];omega⟩
 have n5:((b2[p].toNat:Int)==5)=false:=Fr;have i5:=V;clear V;by_cases V:(b2[p].toNat:Int)=6
 ·by_cases c5:x.stack.length<2
  ·have HE:Hid (R=none):=by unfold Hid;rw[<- a3];unfold D7;rw[V];simp[c5]
   have f8:(x.stack.length:Int)<2:=Ck;clear a3 c5;go_wp2_with fail;refine tb (.tuple #[.agg #[.s N x.locals.length G,.s sa x.stack.length J],.bool false]) (by simp[results,Bsy,go_sem,z0,z1]) ?_;obtain rfl:=Ba HE;exact⟨⟨N,x.locals.length,G,sa,x.stack.length,J⟩,rfl,fun y Q=>by simp at Q,(a5.setCell Fr _).setCell Fr _⟩
  obtain⟨j,hh⟩:∃j:Nat,x.stack.length=j+2:=⟨x.stack.length-2,Ck⟩;obtain⟨k1,q7⟩:∃k1:Nat,k1=j+1:=⟨_,rfl⟩;have c6:j<x.stack.length:=Ck;have k2:k1<x.stack.length:=Ck;have d1:x.stack.getD (x.stack.length-2) (0,0)=x.stack[j]:=by
   rw[show x.stack.length-2=j by omega];simp[Vm,c6]
  have n1:x.stack.getD (x.stack.length-1) (0,0)=x.stack[k1]:=by
   rw[show x.stack.length-1=k1 by omega];simp[Vm,k2]
  obtain⟨L,O,rfl,b1,c4⟩:=c3.at Ck;obtain⟨s0,s1⟩:=c4 k1 k2;obtain⟨s2,s3⟩:=c4 j c6;have HE:Hid (R=some ⟨x.locals,x.stack.take j++[x.stack[k1],x.stack[j]]⟩):=by
   unfold Hid;rw[<- a3];unfold D7;rw[V,Pk Ck,Pk Ck,Pk Ck,Pk Ck,Th rfl,Pk Ck,d1,n1,show x.stack.length-2=j by omega]
  generalize x.stack[k1]=tt at *;generalize x.stack[j]=uu at *;obtain⟨B,D⟩:=tt;obtain⟨u1,u2⟩:=uu;simp only at s0 s1 s2 s3;have S0:Hid (∀A,Bl w A->A.C L (O+k1*2) (.i B)/\A.C L (O+k1*2+1) (.i D)/\A.C L (O+j*2) (.i u1)/\A.C L (O+j*2+1) (.i u2)/\L<A.heap.size):=fun A h=>⟨(h.cell b1).trans s0,(h.cell b1).trans s1,(h.cell b1).trans s2,(h.cell b1).trans s3,Brs b1 h.size⟩;have t9:IntKind.i64.wrap ((x.stack.length:Int)-1)=(k1:Int):=by rw[show (x.stack.length:Int)-1=(k1:Int) by omega];exact Cx _ Ck Ck
  have x2:IntKind.i64.wrap ((x.stack.length:Int)-2)=(j:Int):=by rw[show (x.stack.length:Int)-2=(j:Int) by omega];exact Cx _ Ck Ck
  have x3:(x.stack.length:Int)-1=(k1:Int):=Ck;have x4:(x.stack.length:Int)-2=(j:Int):=Ck;have j8:(j:Int)<(x.stack.length:Int):=Ck;have x5:(k1:Int)<(x.stack.length:Int):=Ck;have h9:(j:Int)<=(J:Int):=Ck;have d6:j<=x.stack.length:=Ck;have f8:¬(x.stack.length:Int)<2:=Ck;have j9:IntKind.i64.wrap (j:Int)=(j:Int):=Cx _ Ck Ck;have x6:IntKind.i64.wrap (k1:Int)=(k1:Int):=Cx _ Ck Ck;clear s0 s1 s2 s3 c4 d1 n1 c5 a3 hh c6 k2 q7;have a6:F.C (w.heap.size+1+1) 0 (.s N x.locals.length G):=(Bb X1 0).trans rfl;have a7:F.C (w.heap.size+1+1) 1 (.s (some ⟨L,O,none⟩) x.stack.length J):=(Bb X1 1).trans rfl;have a9:w.heap.size+1+1<F.drew.heap.size:=Sp X1;obtain⟨s0,s1,s2,s3,l8⟩:=Ba S0 _ a5;have d2:L<F.drew.heap.size:=l8;have b4:Bl w (F.alloc (O20 B D u1 u2)).drew:=(a5.alloc f3 _).drew;have ZA:(F.alloc (O20 B D u1 u2)).drew.heap[w.heap.size+1+1+1]?=some (O21 none 0 0 none 0 0):=Bg Z1 (O20 B D u1 u2);have f4:TyR (F.alloc (O20 B D u1 u2)).drew (.s (.p F.heap.size) 2 2) [(B,D),(u1,u2)]:=(TyR.new2 F B D u1 u2).below (Brm _ _).drew;have f6:=(c3.below b4).take d6;have b3:(x.stack.take j).length=j:=Fr;have b0:Calls prog 296 #[.s (some ⟨L,O,none⟩) j J,.s (.p F.heap.size) 2 2] (F.alloc (O20 B D u1 u2)).drew fun e A =>
    ∃a c,e=.r (.s a (j+2) c)/\Cq A (F.alloc (O20 B D u1 u2)).drew.heap.size (.s a (j+2) c) (x.stack.take j++[(B,D),(u1,u2)])/\Bl (F.alloc (O20 B D u1 u2)).drew A:=by
   have h:=My (x.stack.take j) ([(B,D),(u1,u2)]) (some ⟨L,O,none⟩) (.p F.heap.size) j J 2 2 (F.alloc (O20 B D u1 u2)).drew (f6) (f4) (by rw[b3];simp;omega);rw[b3]at h;exact h
  have c8:=Bc b0;clear b0;clear f4 f6;go_wp2
  go_region_held3 (fun A=>A.C (w.heap.size+1+1) 0 (.s N x.locals.length G)/\A.C (w.heap.size+1+1) 1 (.s (some ⟨L,O,none⟩) x.stack.length J)/\A.C L (O+k1*2) (.i B)/\A.C L (O+k1*2+1) (.i D)/\A.C L (O+j*2) (.i u1)/\A.C L (O+j*2+1) (.i u2))
   (first|exact⟨a6,a7,s0,s1,s2,s3⟩|exact⟨QA a9 a6,QA a9 a7,QA d2 s0,QA d2 s1,QA d2 s2,QA d2 s3⟩|exact⟨QC I Bd (QA a9 a6),QC I Bd (QA a9 a7),QC I Bd (QA d2 s0),QC I Bd (QA d2 s1),QC I Bd (QA d2 s2),QC I Bd (QA d2 s3)⟩|exact⟨(Brt _ _ _ _ Bd).trans ((Brt _ _ _ _ Bd).trans (QC I Bd (QA a9 a6))),(Brt _ _ _ _ Bd).trans ((Brt _ _ _ _ Bd).trans (QC I Bd (QA a9 a7))),(Brt _ _ _ _ Bd).trans ((Brt _ _ _ _ Bd).trans (QC I Bd (QA d2 s0))),(Brt _ _ _ _ Bd).trans ((Brt _ _ _ _ Bd).trans (QC I Bd (QA d2 s1))),(Brt _ _ _ _ Bd).trans ((Brt _ _ _ _ Bd).trans (QC I Bd (QA d2 s2))),(Brt _ _ _ _ Bd).trans ((Brt _ _ _ _ Bd).trans (QC I Bd (QA d2 s3)))⟩)
   (first|(go_at_call 296;refine(Ba c8).mono ?_;rintro e w7 ⟨Z,uc,rfl,d3,I⟩;have Z7:=stay I ZA;have b5:=Bb Z7 0;have b6:=Bb Z7 1;have g3:=Bk Z7 0;have g4:=Bk Z7 1;simp at b5 b6))
  have d4:=QB b4 I;have lb:=Sp ZA;have c9:=(Kp.set_lo (e:=none) (i:=0) (g:=w.heap.size+1+1+1) (w:=w7) lb (.s N x.locals.length G)).trans (Kp.set_lo (i:=1) (g:=w.heap.size+1+1+1) lb (.s Z (j+2) uc));have d0:=Cq.kp d3 c9 Fm;have a0:=(d4.setCell (p:=.a (w.heap.size+1+1+1) 0) Fr (.s N x.locals.length G)).setCell (p:=.a (w.heap.size+1+1+1) 1) Fr (.s Z (j+2) uc);go_wp2_with fail;refine tb (.tuple #[.agg #[.s N x.locals.length G,.s Z (j+2) uc],.bool true]) (by simp[results,Bsy,go_sem,b5,b6]) ?_;obtain rfl:=Ba HE;refine⟨⟨N,x.locals.length,G,Z,(j+2),uc⟩,rfl,fun y Q=>?_,a0⟩;simp only[Option.some.injEq]at Q;subst Q;exact⟨d5.below a0,Gw d0 (by rw[Ws,b3]),Bd,by rw[Ws,b3];simp;omega⟩
 have n6:((b2[p].toNat:Int)==6)=false:=Fr;have i6:=V;clear V;by_cases V:(b2[p].toNat:Int)=15
 ·have HE:Hid (R=some ⟨Ci (4,(p:Int)) (0,0) x.locals,Ci (4,(p:Int)) (0,0) x.stack++[(4,(p:Int))]⟩):=by
   unfold Hid;rw[<- a3];unfold D7;rw[V,Pk Ck,Pk Ck,Pk Ck,Pk Ck,Pk Ck,Th rfl]
  clear a3;have n7:=a5.alloc f3 (O7 4 (p:Int));have tA:=Be F (O7 4 (p:Int));have XA:=Bg X1 (O7 4 (p:Int));have h6:=Bg Z1 (O7 4 (p:Int));go_wp2_with fail;refine(Rl x.locals N x.locals.length G 4 (p:Int) 0 0 _ (d5.below n7) Ck).mono ?_;rintro e w2 ⟨ta,tc,rfl,k0,Y⟩;have a8:=QB n7 Y;have f5:=a8.size;have i1:=stay Y tA;have X2:=stay Y XA;have Z2:=stay Y h6;clear f0 f1 x0 x1 z0 z1 q0 q1 lF lM lX m0 m1 m2 m3 m4 m5 m6 m7 m8 m9 b8 b9 tA XA h6 Y;have x1:=Bb X2 1;obtain⟨t0,B⟩:=cl2 i1;have lX:=Sp X2;have lT:=Sp i1;simp at x1 t0 B;go_wp2_with fail;refine(Rl x.stack sa x.stack.length J 4 (p:Int) 0 0 _ (c3.below a8) Ck).mono ?_;rintro e w3 ⟨va,vc,rfl,q8,a1⟩;have c0:=a8.trans (a1.mono f5);have f9:=c0.size;have n8:=stay a1 i1;have Z3:=stay a1 Z2;have q9:=Cq.kp k0 (Kp.of_below (e:=none) a1) Fm;clear x1 t0 B lX lT i1 X2 a1;obtain⟨t0,B⟩:=cl2 n8;have lT:=Sp n8;simp at t0 B;have b4:=c0.alloc f9 (O7 4 (p:Int));have ZA:=Bg Z3 (O7 4 (p:Int));have f4:=TyR.new1 w3 4 (p:Int);have b3:(Ci (4,(p:Int)) (0,0) x.stack).length=x.stack.length:=by simp[Ci]
  have n9:TyR (w3.alloc (O7 4 (p:Int))) (.s va x.stack.length vc) (Ci (4,(p:Int)) (0,0) x.stack):=(Gw q8 (by rw[b3])).below (QN _);have b0:Calls prog 296 #[.s va x.stack.length vc,.s (.p w3.heap.size) 1 1] (w3.alloc (O7 4 (p:Int))) fun e A =>
    ∃a c,e=.r (.s a (x.stack.length+1) c)/\Cq A (w3.alloc (O7 4 (p:Int))).heap.size (.s a (x.stack.length+1) c) (Ci (4,(p:Int)) (0,0) x.stack++[(4,(p:Int))])/\Bl (w3.alloc (O7 4 (p:Int))) A:=by
   have h:=My (Ci (4,(p:Int)) (0,0) x.stack) ([(4,(p:Int))]) va (.p w3.heap.size) x.stack.length vc 1 1 (w3.alloc (O7 4 (p:Int))) (n9) (f4) (by rw[b3];simp;omega);rw[b3]at h;exact h
  have c8:=Bc b0;clear b0;clear f4 n9;go_wp2_with fail;refine(Ba c8).mono ?_;rintro e w7 ⟨Z,uc,rfl,d3,I⟩;have Z7:=stay I ZA;have b5:=Bb Z7 0;have b6:=Bb Z7 1;have g3:=Bk Z7 0;have g4:=Bk Z7 1;simp at b5 b6;have r0:=Cq.kp (Cq.kp q9 (Kp.alloc (e:=none) _ _) Fm) (Kp.of_below (e:=none) I) Fm;have o0:w.heap.size+1+1+1<(F.alloc (O7 4 (p:Int))).heap.size:=Fr;have d4:=QB b4 I;have lb:=Sp ZA;have c9:=(Kp.set_lo (e:=none) (i:=0) (g:=w.heap.size+1+1+1) (w:=w7) lb (.s ta x.locals.length tc)).trans (Kp.set_lo (i:=1) (g:=w.heap.size+1+1+1) lb (.s Z (x.stack.length+1) uc));have d0:=Cq.kp d3 c9 Fm;have a0:=(d4.setCell (p:=.a (w.heap.size+1+1+1) 0) Fr (.s ta x.locals.length tc)).setCell (p:=.a (w.heap.size+1+1+1) 1) Fr (.s Z (x.stack.length+1) uc);go_wp2_with fail;refine tb (.tuple #[.agg #[.s ta x.locals.length tc,.s Z (x.stack.length+1) uc],.bool true]) (by simp[results,Bsy,go_sem,b5,b6]) ?_;obtain rfl:=Ba HE;refine⟨⟨ta,x.locals.length,tc,Z,(x.stack.length+1),uc⟩,rfl,fun y Q=>?_,a0⟩;simp only[Option.some.injEq]at Q;subst Q;exact⟨Gw (Cq.kp r0 ((Kp.set_lo (e:=none) (i:=0) o0 _).trans (Kp.set_lo (i:=1) o0 _)) Fm) (by simp[Ci]),Gw d0 (by rw[Ws,b3]),by simp[Ci];omega,by rw[Ws,b3];simp;omega⟩
 have x7:((b2[p].toNat:Int)==15)=false:=Fr;have o1:=V;clear V;by_cases V:(b2[p].toNat:Int)=16
 ·have hq:=Ba q3 V;obtain⟨q,rfl⟩:=Brp hq.1;have g0:q<l.length:=Ck;have c7:R=Ns (RFl.mk d7 d8 d9 f2 bb l ms).T (Rf.all (RFl.mk d7 d8 d9 f2 bb l ms).T (l.map Prod.fst) q) (fun q=>Rf.at' b2.data.toList (q+1)) (q:Int) x:=by
   rw[<- a3];unfold D7;rw[V,Pk Ck,Pk Ck,Pk Ck,Pk Ck,Pk Ck,Pk Ck,Th rfl];rfl
  have k3:=fun A h=>Ba l1 q A h g0;rw[<- c7]at k3;have o2:=Bc k3;clear k3 a3 c7 l1;go_wp2_with fail;refine(Ba o2 _ a5).mono ?_;rintro e w2 ⟨u,rfl,hu,Y⟩;obtain⟨o3,o4,o5,o6,o7,o8⟩:=u;have a8:=a5.trans (Y.mono f3);have Z2:=stay Y Z1;clear f0 f1 x0 x1 z0 z1 q0 q1 lF lM lX m0 m1 m2 m3 m4 m5 m6 m7 m8 m9 b8 b9 o2;obtain⟨z0,z1⟩:=cl2 Z2;obtain⟨q0,q1⟩:=fr2 Z2;have q6:=Sp Z2;simp at z0 z1;go_wp2_with fail;refine tb (.tuple #[.agg #[.s o3 o4 o5,.s o6 o7 o8],.bool R.isSome]) (by simp[results,Bsy,go_sem,z0,z1]) ?_;refine⟨⟨o3,o4,o5,o6,o7,o8⟩,rfl,fun y Q=>?_,(a8.setCell Fr _).setCell Fr _⟩;have h:=hu y Q;exact⟨h.lo.set_frame Z2 _ _,h.st.set_frame Z2 _ _,h.hl,h.hs⟩
 have x8:((b2[p].toNat:Int)==16)=false:=Fr;have o9:=V;clear V;have r3:=Ba p8;have r4:=Ba p9;obtain⟨TK,k4⟩:∃TK,Co (RFl.mk d7 d8 d9 f2 bb l ms).fields (ms.map fun x=>x.1.m) (r1,r2) (b2[p].toNat:Int) n=TK:=⟨_,rfl⟩;obtain⟨LV,k5⟩:∃LV,Dp (RFl.mk d7 d8 d9 f2 bb l ms).fields (ms.map fun x=>x.1.m) (b2[p].toNat:Int) n=LV:=⟨_,rfl⟩;rw[k4]at r3 h3;rw[k5]at r4 h4;have c7:R=(if Ey (RFl.mk d7 d8 d9 f2 bb l ms).T x.stack TK=false then none else some ⟨x.locals,x.stack.take (x.stack.length-TK.length)++LV⟩):=by
  rw[<- a3,<- k4,<- k5];unfold D7;rw[Pk i2,Pk i3,Pk i4,Pk i5,Pk i6,Pk o1,Pk o9]
 have p0:=fun a2 n2 c2 A h h2=>Ba l2 TK a2 n2 c2 A h h2 Ck;have p1:Ey (RFl.mk d7 d8 d9 f2 bb l ms).T x.stack TK=true->TK.length<=x.stack.length:=by
  intro h;unfold Ey at h;by_cases j:x.stack.length<TK.length;·rw[Th j]at h;simp at h
  omega
 generalize Ey (RFl.mk d7 d8 d9 f2 bb l ms).T x.stack TK=TP at *;have k6:=Bc p0;clear p0 l2 a3 k4 k5 i2 i3 i4 i5 i6 o1 o9;cases TP with
 | false =>
  rw[Th rfl]at c7;have HE:=Bc c7;clear c7;go_wp2_with fail;refine(Ba h3 _ a5).mono ?_;rintro e w2 ⟨ka,kc,rfl,f6,Y⟩;have a8:=a5.trans (Y.mono f3);have F2:=stay Y F1;have M2:=stay Y M1;have X2:=stay Y X1;have Z2:=stay Y Z1;have f5:=a8.size;clear f0 f1 x0 x1 z0 z1 q0 q1 lF lM lX lZ m0 m1 m2 m3 m4 m5 m6 m7 m8 m9 b8 b9 F1 M1 X1 Z1 Y;obtain⟨f0,f1⟩:=cl2 F2;obtain⟨m0,m1,m2,m3,m4,m5,m6,m7,m8,m9,b8,b9⟩:=El M2;have lF:=Sp F2;have lM:=Sp M2;simp at f0 f1 m0 m1 m2 m3 m4 m5 m6 m7 m8 m9 b8 b9;go_wp2_with fail;refine(Ba h4 _ a8).mono ?_;rintro e w3 ⟨va,vc,rfl,g5,a1⟩;have c0:=a8.trans (a1.mono f5);have g6:=f6.below a1;have F3:=stay a1 F2;have X3:=stay a1 X2;have Z3:=stay a1 Z2;have f9:=c0.size;clear f0 f1 lF lM m0 m1 m2 m3 m4 m5 m6 m7 m8 m9 b8 b9 F2 M2 X2 Z2 a1;obtain⟨f0,f1⟩:=cl2 F3;have x1:=Bb X3 1;have lF:=Sp F3;have lX:=Sp X3;simp at f0 f1 x1;go_wp2_with fail;refine Qm (Ba k6 ka TK.length kc _ c0 g6) ?_;intro w4 b7;have f7:=c0.trans (b7.mono f9);have p2:=f7.size;have i7:=g5.below b7;have X4:=stay b7 X3;have Z4:=stay b7 Z3;clear f0 f1 x1 lF lX F3 X3 Z3 b7;obtain⟨x0,x1⟩:=cl2 X4;obtain⟨z0,z1⟩:=cl2 Z4;obtain⟨q0,q1⟩:=fr2 Z4;have lX:=Sp X4;have lZ:=Sp Z4;simp at x0 x1 z0 z1;go_wp2_with fail;refine tb (.tuple #[.agg #[.s N x.locals.length G,.s sa x.stack.length J],.bool false]) (by simp[results,Bsy,go_sem,z0,z1]) ?_;obtain rfl:=Ba HE;exact⟨⟨N,x.locals.length,G,sa,x.stack.length,J⟩,rfl,fun y Q=>by simp at Q,(f7.setCell Fr _).setCell Fr _⟩
 | true =>
  rw[Pk Hd]at c7;have r5:=p1 rfl;obtain⟨a4,r6⟩:∃a4:Nat,x.stack.length=a4+TK.length:=⟨x.stack.length-TK.length,Ck⟩;have e0:x.stack.length-TK.length=a4:=Ck;rw[e0]at c7;have HE:=Bc c7;have j6:IntKind.i64.wrap ((x.stack.length:Int)-(TK.length:Int))=(a4:Int):=by rw[show (x.stack.length:Int)-(TK.length:Int)=(a4:Int) by omega];exact Cx _ Ck Ck
  have j7:(x.stack.length:Int)-(TK.length:Int)=(a4:Int):=Ck;have x9:IntKind.i64.wrap (a4:Int)=(a4:Int):=Cx _ Ck Ck;have h9:(a4:Int)<=(J:Int):=Ck;have d6:a4<=x.stack.length:=Ck;have b3:(x.stack.take a4).length=a4:=Fr;clear c7 e0 r5 r6 p1;rcases c3.addr with ⟨k7,r7⟩|⟨L,O,k7⟩
  ·subst k7 r7;have r8:a4=0:=Ck;subst r8;have y0:IntKind.i64.wrap 0=0:=Cx _ Ck Ck;go_wp2_with fail;refine(Ba h3 _ a5).mono ?_;rintro e w2 ⟨ka,kc,rfl,f6,Y⟩;have a8:=a5.trans (Y.mono f3);have F2:=stay Y F1;have M2:=stay Y M1;have X2:=stay Y X1;have Z2:=stay Y Z1;have f5:=a8.size;clear f0 f1 x0 x1 z0 z1 q0 q1 lF lM lX lZ m0 m1 m2 m3 m4 m5 m6 m7 m8 m9 b8 b9 F1 M1 X1 Z1 Y;obtain⟨f0,f1⟩:=cl2 F2;obtain⟨m0,m1,m2,m3,m4,m5,m6,m7,m8,m9,b8,b9⟩:=El M2;have lF:=Sp F2;have lM:=Sp M2;simp at f0 f1 m0 m1 m2 m3 m4 m5 m6 m7 m8 m9 b8 b9;go_wp2_with fail;refine(Ba h4 _ a8).mono ?_;rintro e w3 ⟨va,vc,rfl,g5,a1⟩;have c0:=a8.trans (a1.mono f5);have g6:=f6.below a1;have F3:=stay a1 F2;have X3:=stay a1 X2;have Z3:=stay a1 Z2;have f9:=c0.size;clear f0 f1 lF lM m0 m1 m2 m3 m4 m5 m6 m7 m8 m9 b8 b9 F2 M2 X2 Z2 a1;obtain⟨f0,f1⟩:=cl2 F3;have x1:=Bb X3 1;have lF:=Sp F3;have lX:=Sp X3;simp at f0 f1 x1;go_wp2_with fail;refine Qm (Ba k6 ka TK.length kc _ c0 g6) ?_;intro w4 b7;have f7:=c0.trans (b7.mono f9);have p2:=f7.size;have i7:=g5.below b7;have X4:=stay b7 X3;have Z4:=stay b7 Z3;clear f0 f1 x1 lF lX F3 X3 Z3 b7;obtain⟨x0,x1⟩:=cl2 X4;obtain⟨z0,z1⟩:=cl2 Z4;obtain⟨q0,q1⟩:=fr2 Z4;have lX:=Sp X4;have lZ:=Sp Z4;simp at x0 x1 z0 z1;have a6:w4.C (w.heap.size+1+1) 0 (.s N x.locals.length G):=(Bb X4 0).trans rfl;have a7:w4.C (w.heap.size+1+1) 1 (.s none x.stack.length 0):=(Bb X4 1).trans rfl;have a9:w.heap.size+1+1<w4.drew.heap.size:=Sp X4;have b4:Bl w w4.drew:=f7.drew;have ZA:w4.drew.heap[w.heap.size+1+1+1]?=some (O21 none 0 0 none 0 0):=Z4;have b0:Calls prog 296 #[.s none 0 0,.s va LV.length vc] w4.drew fun e A =>
     ∃a c,e=.r (.s a LV.length c)/\Cq A w4.drew.heap.size (.s a LV.length c) (x.stack.take 0++LV)/\Bl w4.drew A:=by
    have h:=My (x.stack.take 0) (LV) none va 0 0 LV.length vc w4.drew ((c3.below b4).take d6) (i7.below (Brm _ _).drew) (by rw[b3];omega);rw[b3,Brz]at h;exact h
   have c8:=Bc b0;clear b0;go_wp2;refine Br4 (S:=(fun A=>A.C (w.heap.size+1+1) 0 (.s N x.locals.length G)/\A.C (w.heap.size+1+1) 1 (.s none x.stack.length 0))) Lt ⟨a6,a7⟩ (fun c1=>?_);refine tq 0 (.q (w.heap.size+1+1) 0) c1 ?_;refine tq 1 (.s N x.locals.length G) c1 ?_;refine tq 2 (.q (w.heap.size+1+1) 1) c1 ?_;refine tq 3 (.s none x.stack.length 0) c1 ?_;refine tq 4 (.i (x.stack.length:Int)) c1 ?_;refine tq 5 (.s ka TK.length kc) c1 ?_;refine tq 6 (.i (TK.length:Int)) c1 ?_;refine tq 7 (.i 0) c1 ?_;refine tq 8 (.s none 0 0) c1 ?_;refine tq 9 (.s va LV.length vc) c1 ?_;refine tr 10 fun K hK=>?_;go_simp;refine(Ba c8).mono ?_;rintro e w7 ⟨Z,uc,rfl,d3,I⟩;have Z7:=stay I ZA;have b5:=Bb Z7 0;have b6:=Bb Z7 1;have g3:=Bk Z7 0;have g4:=Bk Z7 1;simp at b5 b6
   try dsimp only
   clear c1;refine hK.out _ _ ⟨QC I a9 a6,QC I a9 a7⟩ (fun c1=>?_);clear hK K
   try simp only[QX]
   refine tq 11 (.agg #[.s N x.locals.length G,.s Z LV.length uc]) c1 ?_;refine tr 12 fun K hK=>?_;go_simp;clear c1;refine hK.out _ _ ⟨(Brt _ _ _ _ Bd).trans ((Brt _ _ _ _ Bd).trans (QC I a9 a6)),(Brt _ _ _ _ Bd).trans ((Brt _ _ _ _ Bd).trans (QC I a9 a7))⟩ (fun c1=>?_);clear hK K
   try simp only[QX]
   refine tq 13 (.bool true) c1 ?_;refine Bsg Lt ?_ _;have d4:=QB b4 I;have lb:=Sp ZA;have c9:=(Kp.set_lo (e:=none) (i:=0) (g:=w.heap.size+1+1+1) (w:=w7) lb (.s N x.locals.length G)).trans (Kp.set_lo (i:=1) (g:=w.heap.size+1+1+1) lb (.s Z LV.length uc));have d0:=Cq.kp d3 c9 Fm;have a0:=(d4.setCell (p:=.a (w.heap.size+1+1+1) 0) Fr (.s N x.locals.length G)).setCell (p:=.a (w.heap.size+1+1+1) 1) Fr (.s Z LV.length uc);go_wp2_with fail;refine tb (.tuple #[.agg #[.s N x.locals.length G,.s Z LV.length uc],.bool true]) (by simp[results,Bsy,go_sem,b5,b6]) ?_;obtain rfl:=Ba HE;refine⟨⟨N,x.locals.length,G,Z,LV.length,uc⟩,rfl,fun y Q=>?_,a0⟩;simp only[Option.some.injEq]at Q;subst Q;exact⟨d5.below a0,Gw d0 (by rw[Ws,b3,Brz]),Bd,by rw[Ws,b3];omega⟩
  subst k7;go_wp2_with fail;refine(Ba h3 _ a5).mono ?_;rintro e w2 ⟨ka,kc,rfl,f6,Y⟩;have a8:=a5.trans (Y.mono f3);have F2:=stay Y F1;have M2:=stay Y M1;have X2:=stay Y X1;have Z2:=stay Y Z1;have f5:=a8.size;clear f0 f1 x0 x1 z0 z1 q0 q1 lF lM lX lZ m0 m1 m2 m3 m4 m5 m6 m7 m8 m9 b8 b9 F1 M1 X1 Z1 Y;obtain⟨f0,f1⟩:=cl2 F2;obtain⟨m0,m1,m2,m3,m4,m5,m6,m7,m8,m9,b8,b9⟩:=El M2;have lF:=Sp F2;have lM:=Sp M2;simp at f0 f1 m0 m1 m2 m3 m4 m5 m6 m7 m8 m9 b8 b9;go_wp2_with fail;refine(Ba h4 _ a8).mono ?_;rintro e w3 ⟨va,vc,rfl,g5,a1⟩;have c0:=a8.trans (a1.mono f5);have g6:=f6.below a1;have F3:=stay a1 F2;have X3:=stay a1 X2;have Z3:=stay a1 Z2;have f9:=c0.size;clear f0 f1 lF lM m0 m1 m2 m3 m4 m5 m6 m7 m8 m9 b8 b9 F2 M2 X2 Z2 a1;obtain⟨f0,f1⟩:=cl2 F3;have x1:=Bb X3 1;have lF:=Sp F3;have lX:=Sp X3;simp at f0 f1 x1;go_wp2_with fail;refine Qm (Ba k6 ka TK.length kc _ c0 g6) ?_;intro w4 b7;have f7:=c0.trans (b7.mono f9);have p2:=f7.size;have i7:=g5.below b7;have X4:=stay b7 X3;have Z4:=stay b7 Z3;clear f0 f1 x1 lF lX F3 X3 Z3 b7;obtain⟨x0,x1⟩:=cl2 X4;obtain⟨z0,z1⟩:=cl2 Z4;obtain⟨q0,q1⟩:=fr2 Z4;have lX:=Sp X4;have lZ:=Sp Z4;simp at x0 x1 z0 z1;have a6:w4.C (w.heap.size+1+1) 0 (.s N x.locals.length G):=(Bb X4 0).trans rfl;have a7:w4.C (w.heap.size+1+1) 1 (.s (some ⟨L,O,none⟩) x.stack.length J):=(Bb X4 1).trans rfl;have a9:w.heap.size+1+1<w4.drew.heap.size:=Sp X4;have b4:Bl w w4.drew:=f7.drew;have ZA:w4.drew.heap[w.heap.size+1+1+1]?=some (O21 none 0 0 none 0 0):=Z4;have b0:Calls prog 296 #[.s (some ⟨L,O,none⟩) a4 J,.s va LV.length vc] w4.drew fun e A =>
    ∃a c,e=.r (.s a (a4+LV.length) c)/\Cq A w4.drew.heap.size (.s a (a4+LV.length) c) (x.stack.take a4++LV)/\Bl w4.drew A:=by
   have h:=My (x.stack.take a4) (LV) (some ⟨L,O,none⟩) va a4 J LV.length vc w4.drew ((c3.below b4).take d6) (i7.below (Brm _ _).drew) (by rw[b3];omega);rw[b3]at h;exact h
  have c8:=Bc b0;clear b0;go_wp2
  go_region_held3 (fun A=>A.C (w.heap.size+1+1) 0 (.s N x.locals.length G)/\A.C (w.heap.size+1+1) 1 (.s (some ⟨L,O,none⟩) x.stack.length J))
   (first|exact⟨a6,a7⟩|exact⟨QC I Bd (a6),QC I Bd (a7)⟩|exact⟨(Brt _ _ _ _ Bd).trans ((Brt _ _ _ _ Bd).trans (QC I Bd (a6))),(Brt _ _ _ _ Bd).trans ((Brt _ _ _ _ Bd).trans (QC I Bd (a7)))⟩)
   (first|(go_at_call 296;refine(Ba c8).mono ?_;rintro e w7 ⟨Z,uc,rfl,d3,I⟩;have Z7:=stay I ZA;have b5:=Bb Z7 0;have b6:=Bb Z7 1;have g3:=Bk Z7 0;have g4:=Bk Z7 1;simp at b5 b6))
  have d4:=QB b4 I;have lb:=Sp ZA;have c9:=(Kp.set_lo (e:=none) (i:=0) (g:=w.heap.size+1+1+1) (w:=w7) lb (.s N x.locals.length G)).trans (Kp.set_lo (i:=1) (g:=w.heap.size+1+1+1) lb (.s Z (a4+LV.length) uc));have d0:=Cq.kp d3 c9 Fm;have a0:=(d4.setCell (p:=.a (w.heap.size+1+1+1) 0) Fr (.s N x.locals.length G)).setCell (p:=.a (w.heap.size+1+1+1) 1) Fr (.s Z (a4+LV.length) uc);go_wp2_with fail;refine tb (.tuple #[.agg #[.s N x.locals.length G,.s Z (a4+LV.length) uc],.bool true]) (by simp[results,Bsy,go_sem,b5,b6]) ?_;obtain rfl:=Ba HE;refine⟨⟨N,x.locals.length,G,Z,(a4+LV.length),uc⟩,rfl,fun y Q=>?_,a0⟩;simp only[Option.some.injEq]at Q;subst Q;exact⟨d5.below a0,Gw d0 (by rw[Ws,b3]),Bd,by rw[Ws,b3];omega⟩
def Es (st:Int)(y:Option Bf):Option Bf:=y.bind fun z=>if (z.stack.length:Int)<=st then some z else none
def Bje(f:RFl)(m:RMV)(p:Nat)(v:FrV)(P:Option Bf)(w:TW) (hM:∀B,Bl w B->Calls prog 275 #[f.val,m.val,.i (p:Int),v.val] B fun e a8=>∃u:FrV,e=.r (.tuple #[u.val,.bool P.isSome])/\(∀y,P=some y->u.is y a8)/\Bl B a8):Calls prog 227 #[f.val,m.val,.i (p:Int),v.val] w fun e B => ∃u:FrV,e=.r (.tuple #[u.val,.bool (Es m.st P).isSome])/\(∀y,Es m.st P=some y->u.is y B)/\Bl w B:=by
 obtain⟨a9,b0,b1,b2,bb,l,ms⟩:=f;obtain⟨cl,nm,pa,pl,pc,r1,r2,lo,D,b3,ha,hl,hc,ma,ml,mc,b4,b5⟩:=m;obtain⟨la,ln,lc,sa,sn,sc⟩:=v;simp only[RMV.val,RFl.val,FrV.val]at hM ⊢;have HM:=Bc hM;clear hM;have a0:=U9 w (O11 a9 l.length b0 b1 ms.length b2) (O12 cl nm pa pl pc r1 r2 lo D b3 ha hl hc ma ml mc b4 b5) (O21 la ln lc sa sn sc) (O21 none 0 0 none 0 0);obtain⟨F0,M0,X0,Z0⟩:=Ai w (O11 a9 l.length b0 b1 ms.length b2) (O12 cl nm pa pl pc r1 r2 lo D b3 ha hl hc ma ml mc b4 b5) (O21 la ln lc sa sn sc) (O21 none 0 0 none 0 0);cases P with
 | none =>
  go_in;go_wp2_with fail;refine(Ba HM _ a0).mono ?_;rintro e j ⟨u,rfl,-,F⟩;obtain⟨c,g,h,b,A,vc⟩:=u;have O:=QB a0 F;have a1:=O.size;have G:=stay F M0;have J:=stay F Z0;obtain⟨Q,V⟩:=cl2 J;obtain⟨q0,q1⟩:=fr2 J;have m6:=Bb G 6;have lM:=Sp G;have lZ:=Sp J;simp at Q V m6;clear F0 M0 X0 Z0 F HM;have Y:=Be j (O21 c g h b A vc);have MA:=Bg G (O21 c g h b A vc);have y0:(j.alloc (O21 c g h b A vc)).C j.heap.size 0 (.s c g h):=(Bb Y 0).trans rfl;have y1:(j.alloc (O21 c g h b A vc)).C j.heap.size 1 (.s b A vc):=(Bb Y 1).trans rfl;have mm:(j.alloc (O21 c g h b A vc)).C (w.heap.size+1) 6 (.i D):=(Bb MA 6).trans rfl;have L:((j.setCell (.a (w.heap.size+1+1+1) 0) (.s c g h)).setCell (.a (w.heap.size+1+1+1) 1) (.s b A vc)).heap.size=j.heap.size:=by simp[World.setCell]
  have I:=Be ((j.setCell (.a (w.heap.size+1+1+1) 0) (.s c g h)).setCell (.a (w.heap.size+1+1+1) 1) (.s b A vc)) (O21 c g h b A vc);rw[L]at I;have Z:(((j.setCell (.a (w.heap.size+1+1+1) 0) (.s c g h)).setCell (.a (w.heap.size+1+1+1) 1) (.s b A vc)).alloc (O21 c g h b A vc)).heap[w.heap.size+1]?=_:=Bg ((Brk _ _ _ _ Hd).trans ((Brk _ _ _ _ Hd).trans G)) (O21 c g h b A vc);have a2:(((j.setCell (.a (w.heap.size+1+1+1) 0) (.s c g h)).setCell (.a (w.heap.size+1+1+1) 1) (.s b A vc)).alloc (O21 c g h b A vc)).C j.heap.size 0 (.s c g h):=(Bb I 0).trans rfl;have a3:(((j.setCell (.a (w.heap.size+1+1+1) 0) (.s c g h)).setCell (.a (w.heap.size+1+1+1) 1) (.s b A vc)).alloc (O21 c g h b A vc)).C j.heap.size 1 (.s b A vc):=(Bb I 1).trans rfl;have a4:(((j.setCell (.a (w.heap.size+1+1+1) 0) (.s c g h)).setCell (.a (w.heap.size+1+1+1) 1) (.s b A vc)).alloc (O21 c g h b A vc)).C (w.heap.size+1) 6 (.i D):=(Bb Z 6).trans rfl;have a5:=((O.setCell (p:=.a (w.heap.size+1+1+1) 0) Fr (.s c g h)).setCell (p:=.a (w.heap.size+1+1+1) 1) Fr (.s b A vc));have a6:=(a5.alloc (by rw[L];exact a1) (O21 c g h b A vc)).drew;clear L I Z;go_wp2;refine Br4 (S:=(fun B=>B.C j.heap.size 0 (.s c g h)/\B.C j.heap.size 1 (.s b A vc)/\B.C (w.heap.size+1) 6 (.i D))) Lt ⟨y0,y1,mm⟩ (fun t=>?_);refine tq 0 (.agg #[.s c g h,.s b A vc]) t ?_;refine tq 1 (.bool false) t ?_;refine tq 2 (.bool false) t ?_;refine tn 3 undef t ?_;refine tn 4 undef t ?_;refine tn 5 undef t ?_;refine tn 6 undef t ?_;refine tn 7 undef t ?_;refine tn 8 undef t ?_;refine tq 9 (.bool false) t ?_;refine tr 10 fun K hK=>?_;go_simp;clear t;refine hK.out _ _ ⟨a2,a3,a4⟩ (fun t=>?_);clear hK K
  try simp only[QX]
  refine tq 11 (.bool false) t ?_;refine Bsg Lt ?_ _;go_wp2_with fail;refine tb (.tuple #[.agg #[.s c g h,.s b A vc],.bool false]) (by simp[results,Bwi,go_sem,Q,V,lZ]) ?_;exact⟨⟨c,g,h,b,A,vc⟩,rfl,fun y N=>by simp[Es]at N,a6⟩
 | some y =>
  by_cases b6:(y.stack.length:Int)<=D
  ·have HE:Hid (Es D (some y)=some y):=Th b6;go_in;go_wp2_with fail;refine(Ba HM _ a0).mono ?_;rintro e j ⟨u,rfl,hu,F⟩;obtain⟨c,g,h,b,A,vc⟩:=u;have O:=QB a0 F;have a1:=O.size;have G:=stay F M0;have J:=stay F Z0;obtain⟨Q,V⟩:=cl2 J;obtain⟨q0,q1⟩:=fr2 J;have m6:=Bb G 6;have lM:=Sp G;have lZ:=Sp J;simp at Q V m6;clear F0 M0 X0 Z0 F HM;have N:=hu y rfl;obtain⟨a7,-,-⟩:=N.st.cap;simp only at a7;subst a7;have Y:=Be j (O21 c g h b y.stack.length vc);have MA:=Bg G (O21 c g h b y.stack.length vc);have y0:(j.alloc (O21 c g h b y.stack.length vc)).C j.heap.size 0 (.s c g h):=(Bb Y 0).trans rfl;have y1:(j.alloc (O21 c g h b y.stack.length vc)).C j.heap.size 1 (.s b y.stack.length vc):=(Bb Y 1).trans rfl;have mm:(j.alloc (O21 c g h b y.stack.length vc)).C (w.heap.size+1) 6 (.i D):=(Bb MA 6).trans rfl;have L:((j.setCell (.a (w.heap.size+1+1+1) 0) (.s c g h)).setCell (.a (w.heap.size+1+1+1) 1) (.s b y.stack.length vc)).heap.size=j.heap.size:=by simp[World.setCell]
   have I:=Be ((j.setCell (.a (w.heap.size+1+1+1) 0) (.s c g h)).setCell (.a (w.heap.size+1+1+1) 1) (.s b y.stack.length vc)) (O21 c g h b y.stack.length vc);rw[L]at I;have Z:(((j.setCell (.a (w.heap.size+1+1+1) 0) (.s c g h)).setCell (.a (w.heap.size+1+1+1) 1) (.s b y.stack.length vc)).alloc (O21 c g h b y.stack.length vc)).heap[w.heap.size+1]?=_:=Bg ((Brk _ _ _ _ Hd).trans ((Brk _ _ _ _ Hd).trans G)) (O21 c g h b y.stack.length vc);have a2:(((j.setCell (.a (w.heap.size+1+1+1) 0) (.s c g h)).setCell (.a (w.heap.size+1+1+1) 1) (.s b y.stack.length vc)).alloc (O21 c g h b y.stack.length vc)).C j.heap.size 0 (.s c g h):=(Bb I 0).trans rfl;have a3:(((j.setCell (.a (w.heap.size+1+1+1) 0) (.s c g h)).setCell (.a (w.heap.size+1+1+1) 1) (.s b y.stack.length vc)).alloc (O21 c g h b y.stack.length vc)).C j.heap.size 1 (.s b y.stack.length vc):=(Bb I 1).trans rfl;have a4:(((j.setCell (.a (w.heap.size+1+1+1) 0) (.s c g h)).setCell (.a (w.heap.size+1+1+1) 1) (.s b y.stack.length vc)).alloc (O21 c g h b y.stack.length vc)).C (w.heap.size+1) 6 (.i D):=(Bb Z 6).trans rfl;have a5:=((O.setCell (p:=.a (w.heap.size+1+1+1) 0) Fr (.s c g h)).setCell (p:=.a (w.heap.size+1+1+1) 1) Fr (.s b y.stack.length vc));have a6:=(a5.alloc (by rw[L];exact a1) (O21 c g h b y.stack.length vc)).drew;clear L I Z;go_wp2;refine Br4 (S:=(fun B=>B.C j.heap.size 0 (.s c g h)/\B.C j.heap.size 1 (.s b y.stack.length vc)/\B.C (w.heap.size+1) 6 (.i D))) Lt ⟨y0,y1,mm⟩ (fun t=>?_);refine tq 0 (.agg #[.s c g h,.s b y.stack.length vc]) t ?_;refine tq 1 (.bool true) t ?_;refine tq 2 (.bool true) t ?_;refine tq 3 (.q j.heap.size 1) t ?_;refine tq 4 (.s b y.stack.length vc) t ?_;refine tq 5 (.i (y.stack.length:Int)) t ?_;refine tq 6 (.q (w.heap.size+1) 6) t ?_;refine tq 7 (.i D) t ?_;refine tq 8 (.bool true) t ?_;refine tq 9 (.bool true) t ?_;refine tr 10 fun K hK=>?_;go_simp;clear t;refine hK.out _ _ ⟨a2,a3,a4⟩ (fun t=>?_);clear hK K
   try simp only[QX]
   refine tq 11 (.bool true) t ?_;refine Bsg Lt ?_ _;go_wp2_with fail;refine tb (.tuple #[.agg #[.s c g h,.s b y.stack.length vc],.bool true]) (by simp[results,Bwi,go_sem,Q,V,lZ]) ?_;rw[Ba HE];refine⟨⟨c,g,h,b,y.stack.length,vc⟩,rfl,fun z hz=>?_,a6⟩;simp only[Option.some.injEq]at hz;subst hz;have hb:Below _ _ _:=((Brm ((j.setCell (.a (w.heap.size+1+1+1) 0) (.s c g h)).setCell (.a (w.heap.size+1+1+1) 1) (.s b y.stack.length vc)).heap.size ((j.setCell (.a (w.heap.size+1+1+1) 0) (.s c g h)).setCell (.a (w.heap.size+1+1+1) 1) (.s b y.stack.length vc))).alloc (Bru _) (O21 c g h b y.stack.length vc)).drew;exact⟨(N.lo.set_frame J _ _).below hb,(N.st.set_frame J _ _).below hb,N.hl,N.hs⟩
  have HE:Hid (Es D (some y)=none):=Pk b6;have b7:D<(y.stack.length:Int):=Ck;go_in;go_wp2_with fail;refine(Ba HM _ a0).mono ?_;rintro e j ⟨u,rfl,hu,F⟩;obtain⟨c,g,h,b,A,vc⟩:=u;have O:=QB a0 F;have a1:=O.size;have G:=stay F M0;have J:=stay F Z0;obtain⟨Q,V⟩:=cl2 J;obtain⟨q0,q1⟩:=fr2 J;have m6:=Bb G 6;have lM:=Sp G;have lZ:=Sp J;simp at Q V m6;clear F0 M0 X0 Z0 F HM;have N:=hu y rfl;obtain⟨a7,-,-⟩:=N.st.cap;simp only at a7;subst a7;have Y:=Be j (O21 c g h b y.stack.length vc);have MA:=Bg G (O21 c g h b y.stack.length vc);have y0:(j.alloc (O21 c g h b y.stack.length vc)).C j.heap.size 0 (.s c g h):=(Bb Y 0).trans rfl;have y1:(j.alloc (O21 c g h b y.stack.length vc)).C j.heap.size 1 (.s b y.stack.length vc):=(Bb Y 1).trans rfl;have mm:(j.alloc (O21 c g h b y.stack.length vc)).C (w.heap.size+1) 6 (.i D):=(Bb MA 6).trans rfl;have L:((j.setCell (.a (w.heap.size+1+1+1) 0) (.s c g h)).setCell (.a (w.heap.size+1+1+1) 1) (.s b y.stack.length vc)).heap.size=j.heap.size:=by simp[World.setCell]
  have I:=Be ((j.setCell (.a (w.heap.size+1+1+1) 0) (.s c g h)).setCell (.a (w.heap.size+1+1+1) 1) (.s b y.stack.length vc)) (O21 c g h b y.stack.length vc);rw[L]at I;have Z:(((j.setCell (.a (w.heap.size+1+1+1) 0) (.s c g h)).setCell (.a (w.heap.size+1+1+1) 1) (.s b y.stack.length vc)).alloc (O21 c g h b y.stack.length vc)).heap[w.heap.size+1]?=_:=Bg ((Brk _ _ _ _ Hd).trans ((Brk _ _ _ _ Hd).trans G)) (O21 c g h b y.stack.length vc);have a2:(((j.setCell (.a (w.heap.size+1+1+1) 0) (.s c g h)).setCell (.a (w.heap.size+1+1+1) 1) (.s b y.stack.length vc)).alloc (O21 c g h b y.stack.length vc)).C j.heap.size 0 (.s c g h):=(Bb I 0).trans rfl;have a3:(((j.setCell (.a (w.heap.size+1+1+1) 0) (.s c g h)).setCell (.a (w.heap.size+1+1+1) 1) (.s b y.stack.length vc)).alloc (O21 c g h b y.stack.length vc)).C j.heap.size 1 (.s b y.stack.length vc):=(Bb I 1).trans rfl;have a4:(((j.setCell (.a (w.heap.size+1+1+1) 0) (.s c g h)).setCell (.a (w.heap.size+1+1+1) 1) (.s b y.stack.length vc)).alloc (O21 c g h b y.stack.length vc)).C (w.heap.size+1) 6 (.i D):=(Bb Z 6).trans rfl;have a5:=((O.setCell (p:=.a (w.heap.size+1+1+1) 0) Fr (.s c g h)).setCell (p:=.a (w.heap.size+1+1+1) 1) Fr (.s b y.stack.length vc));have a6:=(a5.alloc (by rw[L];exact a1) (O21 c g h b y.stack.length vc)).drew;clear L I Z;go_wp2;refine Br4 (S:=(fun B=>B.C j.heap.size 0 (.s c g h)/\B.C j.heap.size 1 (.s b y.stack.length vc)/\B.C (w.heap.size+1) 6 (.i D))) Lt ⟨y0,y1,mm⟩ (fun t=>?_);refine tq 0 (.agg #[.s c g h,.s b y.stack.length vc]) t ?_;refine tq 1 (.bool true) t ?_;refine tq 2 (.bool true) t ?_;refine tq 3 (.q j.heap.size 1) t ?_;refine tq 4 (.s b y.stack.length vc) t ?_;refine tq 5 (.i (y.stack.length:Int)) t ?_;refine tq 6 (.q (w.heap.size+1) 6) t ?_;refine tq 7 (.i D) t ?_;refine tq 8 (.bool false) t ?_;refine tq 9 (.bool false) t ?_;refine tr 10 fun K hK=>?_;go_simp;clear t;refine hK.out _ _ ⟨a2,a3,a4⟩ (fun t=>?_);clear hK K
  try simp only[QX]
  refine tq 11 (.bool false) t ?_;refine Bsg Lt ?_ _;go_wp2_with fail;refine tb (.tuple #[.agg #[.s c g h,.s b y.stack.length vc],.bool false]) (by simp[results,Bwi,go_sem,Q,V,lZ]) ?_;rw[Ba HE];exact⟨⟨c,g,h,b,y.stack.length,vc⟩,rfl,fun z hz=>by simp at hz,a6⟩
def Fb (T:TI)(mp:Int->Option Bf)(p:Int)(lo:TP):List Rd.Hnd->Int
 | []=>0
 | h::r=>if p<h.frm then Fb T mp p lo r else if h.til<=p then Fb T mp p lo r
  else if (mp h.target).isSome=false then 8 else if Cj T ⟨lo,[(3,h.cl)]⟩ (Cu (mp h.target))=false then 9 else Fb T mp p lo r
def Bb0(f:RFv)(T:TI)(m:RMV)(c:List Rd.Hnd)(bb:Nat)(mp:Int->Option Bf)(p:Int)(v:FrV)(x:Bf)(w:TW)(hF:f.fitsAs T w)(d0:m.hl=c.length)(g1:c.length<=1000)(d1:Iz w bb (.s m.ha m.hl m.hc) c) (b7:∀q G,Bl w G->Calls prog 172 #[m.val,.i q] G fun e d2=>∃u:FrV,e=.r (.tuple #[u.val,.bool (mp q).isSome])/\u.is (Cu (mp q)) d2/\Bl G d2)(hv:v.is x w):Calls prog 229 #[f.val,m.val,.i p,v.val] w fun e G=>e=.r (.i (Fb T mp p x.locals c))/\Bl w G:=by
 have b8:=fun (u u':FrV) (y y':Bf) G (h:Bl w G) hu f3=>Pv f T u u' y y' G (hF.below h) hu f3;have d3:=hv.lo;have f4:=hv.hl;generalize j:Fb T mp p x.locals c=R;have HR:Hid (Fb T mp p x.locals (c.drop 0)=R):=j;have b2:Hid (∀G,Bl w G->Iz G bb (.s m.ha m.hl m.hc) c):=fun G h=>d1.kp (Kp.of_below (e:=none) h) Fm;obtain⟨a2,fl,a3,a4,fm,a5⟩:=f;obtain⟨cl,nm,pa,pl,pc,r1,r2,lo,st,b9,ha,hl,hc,ma,ml,mc,c0,c3⟩:=m;obtain⟨O,Q,V,sa,sn,sc⟩:=v;simp only at d0;subst d0;simp only[RMV.val,RFv.val,FrV.val]at b7 b8 d3 ⊢;unfold Hid at b2;simp only at b2;have f5:=Bc b2;have f6:=Bc b7;have f7:=Bc b8;clear j hF d1 b7 b8 hv b2;have d4:=Em w (O11 a2 fl a3 a4 fm a5) (O12 cl nm pa pl pc r1 r2 lo st b9 ha c.length hc ma ml mc c0 c3) (O21 O Q V sa sn sc);have C0:=Nz w (O11 a2 fl a3 a4 fm a5) (O12 cl nm pa pl pc r1 r2 lo st b9 ha c.length hc ma ml mc c0 c3) (O21 O Q V sa sn sc);go_in;go_wp2
 go_loopw [9] (fun i wr=>∃q:Nat,q<=c.length/\i=.i (q:Int)/\Hid (Fb T mp p x.locals (c.drop q)=R)/\Bl w wr/\wr.heap[w.heap.size]?=some (O11 a2 fl a3 a4 fm a5)/\wr.heap[w.heap.size+1]?=some (O12 cl nm pa pl pc r1 r2 lo st b9 ha c.length hc ma ml mc c0 c3)/\wr.heap[w.heap.size+1+1]?=some (O21 O Q V sa sn sc))
  (fun i _=>c.length-(intOf i).toNat)
 case atStart=>exact⟨0,Ck,rfl,HR,d4,C0.1,C0.2.1,C0.2.2⟩
 case round=>
  clear HR d4 C0;obtain⟨q,hq,rfl,HR,hB,CF,CM,CX⟩:=hrel;have f8:=hB.size;have lF:=Sp CF;have lM:=Sp CM;have lX:=Sp CX;obtain⟨m0,m1,m2,m3,m4,m5,m6,m7,m8,m9,d5,d6⟩:=El CM;simp at m0 m1 m2 m3 m4 m5 m6 m7 m8 m9 d5 d6;by_cases Y:q<c.length
  ·obtain⟨g,hg,g2,_,a9⟩:=Cf (Ba f5 _ hB) Ck;have y0:=(a9 _ (Db c q Y 0 Ck).2).trans (Db c q Y 0 Ck).1;have y1:=(a9 _ (Db c q Y 1 Ck).2).trans (Db c q Y 1 Ck).1;have y2:=(a9 _ (Db c q Y 2 Ck).2).trans (Db c q Y 2 Ck).1;have y3:=(a9 _ (Db c q Y 3 Ck).2).trans (Db c q Y 3 Ck).1;have hd:c.drop q=c[q]::c.drop (q+1):=Brj Y;have j:=Ba HR;rw[hd,Fb]at j;generalize c[q]=t at *;obtain⟨Z,h2,h3,I⟩:=t;simp at y0 y1 y2 y3;simp only at j;have kb:(q:Int)<(c.length:Int):=Ck;have b0:=hB.alloc f8 (O14 Z h2 h3 I);have c4:=Bg CF (O14 Z h2 h3 I);have c5:=Bg CM (O14 Z h2 h3 I);have c6:=Bg CX (O14 Z h2 h3 I);have f9:=Be wr (O14 Z h2 h3 I);clear a9 hd HR;subst hg;by_cases c1:p<Z
   ·rw[Th c1]at j;have HG:=Bc j;clear j;go_wp2;go_roundw
    case rel=>exact⟨q+1,Ck,Mg,HG,b0,c4,c5,c6⟩
    case measure=>simp[intOf];omega
   rw[Pk c1]at j;by_cases c2:h2<=p
   ·rw[Th c2]at j;have HG:=Bc j;clear j;go_wp2;go_roundw
    case rel=>exact⟨q+1,Ck,Mg,HG,b0,c4,c5,c6⟩
    case measure=>simp[intOf];omega
   rw[Pk c2]at j;have d7:=Ba f6 h3 _ b0;generalize mp h3=MP at *;have b3:=Bc d7;clear d7;cases b4:MP.isSome with
   | false =>
    rw[b4,Th rfl]at j;have HE:=Bc j;rw[b4]at b3;clear j;go_wp2_with fail;refine(Ba b3).mono ?_;rintro e F ⟨u,rfl,-,a1⟩;have a6:=QB b0 a1;obtain⟨l,z,A,B,D,vc⟩:=u;go_wp2;go_ret;exact⟨by rw[<- Ba HE];rfl,a6.alloc a6.size _⟩
   | true =>
    rw[b4,Pk Hd]at j;rw[b4]at b3;have c7:=Bc j;clear j;go_wp2_with fail;refine(Ba b3).mono ?_;rintro e F ⟨u,rfl,hu,a1⟩;have a6:=QB b0 a1;obtain⟨l,z,A,B,D,vc⟩:=u;have F2:=Bg (stay a1 c4) (O21 l z A B D vc);have X2:=Bg (stay a1 c6) (O21 l z A B D vc);have M2:=Bg (stay a1 c5) (O21 l z A B D vc);have H2:=Bg (stay a1 f9) (O21 l z A B D vc);have U2:=Be F (O21 l z A B D vc);have f0:(F.alloc (O21 l z A B D vc)).C w.heap.size 0 (.s a2 fl a3):=(Bb F2 0).trans rfl;have f1:(F.alloc (O21 l z A B D vc)).C w.heap.size 1 (.s a4 fm a5):=(Bb F2 1).trans rfl;have x0:(F.alloc (O21 l z A B D vc)).C (w.heap.size+1+1) 0 (.s O Q V):=(Bb X2 0).trans rfl;have b1:(F.alloc (O21 l z A B D vc)).C wr.heap.size 3 (.i I):=(Bb H2 3).trans rfl;have u0:(F.alloc (O21 l z A B D vc)).C F.heap.size 0 (.s l z A):=(Bb U2 0).trans rfl;have u1:(F.alloc (O21 l z A B D vc)).C F.heap.size 1 (.s B D vc):=(Bb U2 1).trans rfl;have L:w.heap.size<(F.alloc (O21 l z A B D vc)).heap.size:=Sp F2;have a7:w.heap.size+1+1<(F.alloc (O21 l z A B D vc)).heap.size:=Sp X2;have a8:wr.heap.size<(F.alloc (O21 l z A B D vc)).heap.size:=Sp H2;have N:F.heap.size<(F.alloc (O21 l z A B D vc)).heap.size:=Sp U2;clear m0 m1 m2 m3 m4 m5 m6 m7 m8 m9 d5 d6 y0 y1 y2 y3 lF lM lX;go_wp2;refine Br4 (S:=(fun G=>G.C w.heap.size 0 (.s a2 fl a3)/\G.C w.heap.size 1 (.s a4 fm a5)/\G.C (w.heap.size+1+1) 0 (.s O Q V)/\G.C wr.heap.size 3 (.i I)/\G.C F.heap.size 0 (.s l z A)/\G.C F.heap.size 1 (.s B D vc))) Lt ⟨f0,f1,x0,b1,u0,u1⟩ (fun J=>?_);refine tq 0 (.agg #[.s a2 fl a3,.s a4 fm a5]) J ?_;refine tq 1 (.q (w.heap.size+1+1) 0) J ?_;refine tq 2 (.s O Q V) J ?_;refine tq 3 (.q wr.heap.size 3) J ?_;refine tq 4 (.i I) J ?_;refine tq 8 (.agg #[.s l z A,.s B D vc]) J ?_;refine tr 5 fun K hK=>?_;go_simp;refine Qm (Lb I _) ?_;intro w7 b
    try dsimp only
    clear J;refine hK.out _ _ ⟨QC b L f0,QC b L f1,QC b a7 x0,QC b a8 b1,QC b N u0,QC b N u1⟩ (fun J=>?_);clear hK K
    try simp only[QX]
    refine tr 6 fun K hK=>?_;go_simp;clear J;refine hK.out _ _ ⟨QA (QL b L) (QC b L f0),QA (QL b L) (QC b L f1),QA (QL b a7) (QC b a7 x0),QA (QL b a8) (QC b a8 b1),QA (QL b N) (QC b N u0),QA (QL b N) (QC b N u1)⟩ (fun J=>?_);clear hK K
    try simp only[QX]
    refine tq 7 (.agg #[.s O Q V,.s (.p w7.heap.size) 1 1]) J ?_;refine tr 9 fun K hK=>?_;go_simp;have c8:Bl w (F.alloc (O21 l z A B D vc)).drew:=(a6.alloc a6.size _).drew;have c9:=c8.trans (b.mono c8.size);have b5:=c9.alloc c9.size (O7 3 I);have d8:FrV.is ⟨l,z,A,B,D,vc⟩ (Cu MP) (w7.alloc (O7 3 I)):=((hu.below ((QN _).drew)).below b).below (QN _);have d9:FrV.is ⟨O,Q,V,some ⟨w7.heap.size,0,none⟩,1,1⟩ ⟨x.locals,[(3,I)]⟩ (w7.alloc (O7 3 I)):=⟨d3.below b5,TyR.new1 w7 3 I,f4,Hd⟩;refine Qm (Ba f7 ⟨O,Q,V,some ⟨w7.heap.size,0,none⟩,1,1⟩ ⟨l,z,A,B,D,vc⟩ _ _ _ b5 d9 d8) ?_;intro w9 a0
    try dsimp only
    clear J;refine hK.out _ _ ⟨QC a0 (Brs (QL b L) Hd) (QA (QL b L) (QC b L f0)),QC a0 (Brs (QL b L) Hd) (QA (QL b L) (QC b L f1)),QC a0 (Brs (QL b a7) Hd) (QA (QL b a7) (QC b a7 x0)),QC a0 (Brs (QL b a8) Hd) (QA (QL b a8) (QC b a8 b1)),QC a0 (Brs (QL b N) Hd) (QA (QL b N) (QC b N u0)),QC a0 (Brs (QL b N) Hd) (QA (QL b N) (QC b N u1))⟩ (fun J=>?_);clear hK K
    try simp only[QX]
    refine tq 10 (.bool (Cj T ⟨x.locals,[(3,I)]⟩ (Cu MP))) J ?_;refine Bsg Lt ?_ _;have f2:=QB b5 a0;have b6:Bl (F.alloc (O21 l z A B D vc)) w9:=by
     have Z:Bl (F.alloc (O21 l z A B D vc)) w7:=((Brm _ _).drew).trans b;have h2:=Z.alloc Z.size (O7 3 I);exact QB h2 a0
    have F9:=stay b6 F2;have M9:=stay b6 M2;have X9:=stay b6 X2;clear J f0 f1 x0 b1 u0 u1 b a0 b6 F2 M2 X2 H2 U2 d8 d9 c9 b5 c8 a6 a1 hu;have j:=Ba c7;generalize Cj T ⟨x.locals,[(3,I)]⟩ (Cu MP)=g0 at *;cases g0 with
    | true =>
     have HG:Hid (Fb T mp p x.locals (c.drop (q+1))=R):=by unfold Hid;rw[<- j];simp
     clear j c7;go_wp2;go_roundw
     case rel=>exact⟨q+1,Ck,Mg,HG,f2,F9,M9,X9⟩
     case measure=>simp[intOf];omega
    | false =>
     have HE:Hid ((9:Int)=R):=by unfold Hid;rw[<- j];simp
     clear j c7;go_wp2;go_ret;exact⟨by rw[<- Ba HE];rfl,f2⟩
  have HE:Hid ((0:Int)=R):=by unfold Hid;rw[<- Ba HR,Brq Ck];rfl
  have kb:¬(q:Int)<(c.length:Int):=Ck;clear HR;go_wp2;go_ret;exact⟨by rw[<- Ba HE];rfl,hB⟩
def K9 (T:TI)(tk lv want:TP)(arg:Int->Int)(p op n:Int)(x:Bf):Option Bf :=
 if op=2 then (if (x.locals.getD n.toNat (0,0)).1=0 then none else some ⟨x.locals,x.stack++[x.locals.getD n.toNat (0,0)]⟩)
 else if op=3 then (if x.stack.length<1 then none else some ⟨x.locals.set n.toNat (x.stack.getD (x.stack.length-1) (0,0)),x.stack.take (x.stack.length-1)⟩)
 else if op=4 then (if x.stack.length<1 then none else some ⟨x.locals,x.stack.take (x.stack.length-1)⟩)
 else if op=5 then (if x.stack.length<1 then none else some ⟨x.locals,x.stack++x.stack.drop (x.stack.length-1)⟩)
 else if op=6 then (if x.stack.length<2 then none else some ⟨x.locals,x.stack.take (x.stack.length-2)++[x.stack.getD (x.stack.length-1) (0,0),x.stack.getD (x.stack.length-2) (0,0)]⟩)
 else if op=15 then some ⟨Ci (4,p) (0,0) x.locals,Ci (4,p) (0,0) x.stack++[(4,p)]⟩
 else if op=16 then Ns T want arg n x
 else if Ey T x.stack tk=false then none
 else some ⟨x.locals,x.stack.take (x.stack.length-tk.length)++lv⟩
def Az(T:TI)(F:List Rf.Fld)(b:List Rd.Mth)(c:Int->TP)(arg:Int->Int)(e:Int×Int)(p op n:Int)(x:Bf):D7 T F b c arg e p op n x=K9 T (Co F b e op n) (Dp F b op n) (c n) arg p op n x:=rfl
structure Dv where
 lo:List (Int × Int)
 st:List (Int × Int)
 br:Bool
def Bj (b:Dv):(Int × Int) × Dv :=
 if b.st.length=0 then ((0,0),⟨b.lo,b.st,true⟩) else (b.st.getD (b.st.length-1) (0,0),⟨b.lo,b.st.take (b.st.length-1),b.br⟩)
def Tp (T:TI)(t x:Int × Int)(b:Dv):Dv:=if Tr.fitsB T t.1 t.2 x.1 x.2=true then b else ⟨b.lo,b.st,true⟩
def Fn (T:TI)(l:TP):Nat->Dv->Dv
 | 0,b=>b
 | i+1,b=>Fn T l i (Tp T (Bj b).1 (l.getD i (0,0)) (Bj b).2)
def Ga (T:TI)(l:TP)(b:Dv):Dv:=Fn T l l.length b
def Ed (hi:Int)(t:Int × Int)(b:Dv):Dv:=if hi<=(b.st.length:Int) then ⟨b.lo,b.st,true⟩ else ⟨b.lo,b.st++[t],b.br⟩
def Gi (hi:Int):TP->Dv->Dv
 | [],b=>b
 | t::r,b=>Gi hi r (Ed hi t b)
def Va (hi n:Int)(b:Dv):Dv :=
 if n<0 then ⟨b.lo,b.st,true⟩ else if (b.lo.length:Int)<=n then ⟨b.lo,b.st,true⟩ else if (b.lo.getD n.toNat (0,0)).1=0 then ⟨b.lo,b.st,true⟩ else Ed hi (b.lo.getD n.toNat (0,0)) b
def To (n:Int)(b:Dv):Dv :=
 if n<0 then ⟨b.lo,(Bj b).2.st,true⟩ else if (b.lo.length:Int)<=n then ⟨b.lo,(Bj b).2.st,true⟩ else ⟨b.lo.set n.toNat (Bj b).1,(Bj b).2.st,(Bj b).2.br⟩
def K5 (old fresh:Int × Int)(b:Dv):Dv:=⟨Ci old fresh b.lo,Ci old fresh b.st,b.br⟩
def Baf (hi:Int)(b:Dv):Dv:=Ed hi (Bj (Bj b).2).1 (Ed hi (Bj b).1 (Bj (Bj b).2).2)
def Bel (hi:Int)(b:Dv):Dv:=Ed hi (Bj b).1 (Ed hi (Bj b).1 (Bj b).2)
def Py (isNew:Int->Bool)(c:Int)(t:Int × Int)(b:Dv):Dv :=
 if t.1≠4 then ⟨b.lo,b.st,true⟩ else if isNew t.2=false then ⟨b.lo,b.st,true⟩ else K5 t (3,c) b
def W5 (T:TI)(want:TP)(isNew:Int->Bool)(c:Int)(b:Dv):Dv :=
 Py isNew c (Bj (Ga T want b)).1 (Bj (Ga T want b)).2
def Ew (b:Dv):Option Bf:=if b.br=true then none else some ⟨b.lo,b.st⟩
def V5 (T:TI)(hi:Int)(tk lv want:TP)(isNew:Int->Bool)(p op n:Int)(b:Dv):Dv :=
 if op=2 then Va hi n b else if op=3 then To n b else if op=4 then (Bj b).2 else if op=5 then Bel hi b else if op=6 then Baf hi b
 else if op=15 then Ed hi (4,p) (K5 (4,p) (0,0) b) else if op=16 then W5 T want isNew n b else Gi hi lv (Ga T tk b)
def L3 (T:TI)(hi:Int)(tk lv want:TP)(isNew:Int->Bool)(p op n:Int)(x:Bf):Option Bf:=Ew (V5 T hi tk lv want isNew p op n ⟨x.locals,x.stack,false⟩)
def Ee (T:TI):TP->TP->Bool
 | _,[]=>true
 | [],_::_=>false
 | s::ss,t::ts=>Tr.fitsB T s.1 s.2 t.1 t.2&&Ee T ss ts
def Ni{z:TI}(e:Tr.Ok z):∀(a b:TP),(∀t∈a,Tr.Arg z t.1 t.2)->(∀t∈b,Tr.Arg z t.1 t.2)->Hw z a b=Ee z a b
 | _,[],_,_=>by simp[Hw,Ee]
 | [],_::_,_,_=>by simp[Hw,Ee]
 | s::ss,t::ts,ha,hb=>by
  rw[Hw,Ee,Tr.rfits_eq e (ha s Hd) (hb t Hd),Ni e ss ts (fun x c=>ha x (by simp[c])) (fun x c=>hb x (by simp[c]))]
def Bax(T:TI)(t x:Int×Int):∀(a b:TP),a.length=b.length->Ee T (a++[t]) (b++[x])=(Ee T a b&&Tr.fitsB T t.1 t.2 x.1 x.2)
 | [],[],_=>by simp[Ee]
 | [],_::_,h=>by simp at h
 | _::_,[],h=>by simp at h
 | s::ss,y::ys,h=>by
  simp only[Bs5,Ee];rw[Bax T t x ss ys (by simpa using h),Bool.and_assoc]
def Bfr(b:Dv):(Bj b).2.lo=b.lo:=by unfold Bj;split<;>rfl
def Bd8(T:TI)(t x:Int×Int)(b:Dv):(Tp T t x b).lo=b.lo/\(Tp T t x b).st=b.st/\(Tp T t x b).br=(b.br || !Tr.fitsB T t.1 t.2 x.1 x.2):=by
 unfold Tp;cases Tr.fitsB T t.1 t.2 x.1 x.2<;>simp
def Xb{α:Type}(l:List α)(d:α)(h:l.length≠0):l=l.take (l.length-1)++[l.getD (l.length-1) d]:=by
 have b:l.length-1<l.length:=Ck;have:=Bss b;rw[show l.length-1+1=l.length by omega,Buv]at this;rw[Vm,Brl b];exact this
def Bap(T:TI)(l:TP):∀(k:Nat) (b:Dv),b.br=true->(Fn T l k b).br=true
 | 0,b,h=>h
 | k+1,b,h=>by
  unfold Fn;refine Bap T l k _ ?_;rw[(Bd8 _ _ _ _).2.2];have:(Bj b).2.br=true:=by unfold Bj;split<;>simp[h]
  rw[this];rfl
def Xm(T:TI)(l:TP):∀(k:Nat),k<=l.length->∀(b:Dv),(Fn T l k b).lo=b.lo /\
  (k<=b.st.length->(Fn T l k b).st=b.st.take (b.st.length-k)/\(Fn T l k b).br=(b.br || !Ee T (b.st.drop (b.st.length-k)) (l.take k))) /\
  (b.st.length<k->(Fn T l k b).br=true)
 | 0,_,b=>by
  refine⟨rfl,fun _=>⟨?_,?_⟩,fun h=>Ck⟩
  ·simp[Fn]
  simp[Fn,Ee]
 | k+1,hk,b=>by
  have m:k<l.length:=Ck;unfold Fn;obtain⟨c,f,g⟩:=Xm T l k Ck (Tp T (Bj b).1 (l.getD k (0,0)) (Bj b).2);obtain⟨s,p,q⟩:=Bd8 T (Bj b).1 (l.getD k (0,0)) (Bj b).2;rw[s,Bfr]at c;rw[p,q]at f;rw[p]at g;by_cases i:b.st.length=0
  ·refine⟨c,fun h=>Ck,fun _=>?_⟩;have e:Bj b=((0,0),⟨b.lo,b.st,true⟩):=by unfold Bj;rw[Th i]
   refine Bap _ _ _ _ ?_;rw[q,e];rfl
  have e:Bj b=(b.st.getD (b.st.length-1) (0,0),⟨b.lo,b.st.take (b.st.length-1),b.br⟩):=by unfold Bj;rw[Pk i]
  rw[e]at c f g ⊢;simp only at c f g ⊢;have j:(b.st.take (b.st.length-1)).length=b.st.length-1:=Hd;rw[j]at f g;refine⟨c,fun h=>?_,fun h=>g Ck⟩;obtain⟨t,v⟩:=f Ck;refine⟨?_,?_⟩
  ·rw[t,Btw]
   congr 1;omega
  rw[v];have z:=Xb b.st (0,0) i;have A:b.st.drop (b.st.length-(k+1))=(b.st.take (b.st.length-1)).drop (b.st.length-1-k)++[b.st.getD (b.st.length-1) (0,0)]:=by
   conv=>lhs;rw[z]
   rw[Ws,j,Bt4 (by rw[j];simp)]
   congr 2
   simp only[Bs8];omega
  have B:l.take (k+1)=l.take k++[l.getD k (0,0)]:=by
   rw[Bss m,Vm,Brl m];rfl
  rw[A,B,Bax _ _ _ _ _ Fr];cases b.br<;>cases Ee T (List.drop (b.st.length-1-k) (List.take (b.st.length-1) b.st)) (List.take k l)<;>simp
def Wi{z:TI}(f:Tr.Ok z)(l:TP)(b:Dv)(g:∀t∈b.st,Tr.Arg z t.1 t.2)(i:∀t∈l,Tr.Arg z t.1 t.2):(Ga z l b).lo=b.lo/\(Ey z b.st l=true->(Ga z l b).st=b.st.take (b.st.length-l.length)/\(Ga z l b).br=b.br)/\(Ey z b.st l=false->(Ga z l b).br=true):=by
 obtain⟨p,j,q⟩:=Xm z l l.length (Bru _) b;unfold Ga Ey;refine⟨p,fun h=>?_,fun h=>?_⟩
 ·by_cases c:b.st.length<l.length;·rw[Th c]at h;cases h
  rw[Pk c,Ni f _ _ (fun t e=>g t (Btk e)) i]at h;obtain⟨m,g2⟩:=j Ck;refine⟨m,?_⟩;rw[g2,Buv,h];simp
 by_cases c:b.st.length<l.length;·exact q c
 rw[Pk c,Ni f _ _ (fun t e=>g t (Btk e)) i]at h;obtain⟨m,g2⟩:=j Ck;rw[g2,Buv,h];simp
def Oi{c:Int}{C:Int×Int}{b:Dv}(h:b.br=true):(Ed c C b).br=true:=by unfold Ed;split<;>simp[h]
def Xz{c:Int}:∀{l:TP}{b:Dv},b.br=true->(Gi c l b).br=true
 | [],_,h=>h
 | _::r,_,h=>Xz (l:=r) (Oi h)
def Bfs{b:Dv}(h:b.br=true):(Bj b).2.br=true:=by unfold Bj;split<;>simp[h]
def Uw{b:Dv}(h:b.br=true):Ew b=none:=by unfold Ew;rw[Th h]
def Bqa{b:Dv}(h:b.br=false):Ew b=some ⟨b.lo,b.st⟩:=by unfold Ew;rw[h];rfl
def Jl(a b:Int×Int)(l:TP):(Ci a b l).length=l.length:=by simp[Ci]
def Bk9{z:TI}(Q:Tr.Ok z)(i:Int)(l lv want:TP)(isNew:Int->Bool)(arg:Int->Int)(p op n:Int)(x:Bf) (V:∀t∈x.stack,Tr.Arg z t.1 t.2)(a5:∀t∈l,Tr.Arg z t.1 t.2)(a6:∀t∈want,Tr.Arg z t.1 t.2)(a7:lv.length<=1)(b3:(x.stack.length:Int)<=i) (Y:op=2\/op=3->0<=n/\n<(x.locals.length:Int))(a8:op=16->∀t∈x.stack,t.1=4->(isNew t.2=true<->arg t.2=n)):L3 z i l lv want isNew p op n x=Es i (K9 z l lv want arg p op n x):=by
 unfold L3 V5 K9;by_cases q:op=2
 ·rw[Th q,Th q];obtain⟨a1,L⟩:=Y (.inl q);unfold Va;rw[Pk Ck,Pk (by simpa using L)];by_cases D:(x.locals.getD n.toNat (0,0)).1=0;·rw[Th D,Th D];rfl
  rw[Pk D,Pk D];unfold Ed Es;by_cases f:i<=(x.stack.length:Int);·rw[Th f];simp[Ew];omega
  rw[Pk f];simp[Ew];omega
 rw[Pk q,Pk q];by_cases s:op=3
 ·rw[Th s,Th s];obtain⟨a1,L⟩:=Y (.inr s);unfold To;rw[Pk Ck,Pk (by simpa using L)];unfold Bj;by_cases c:x.stack.length=0;·rw[Th (show x.stack.length<1 by omega)];simp[c,Ew,Es]
  rw[Pk (show ¬x.stack.length<1 by omega)];simp only[c,Btv];simp[Ew,Es];omega
 rw[Pk s,Pk s];by_cases F:op=4
 ·rw[Th F,Th F];unfold Bj;by_cases c:x.stack.length=0;·rw[Th (show x.stack.length<1 by omega)];simp[c,Ew,Es]
  rw[Pk (show ¬x.stack.length<1 by omega)];simp only[c,Btv];simp[Ew,Es];omega
 rw[Pk F,Pk F];by_cases G:op=5
 ·rw[Th G,Th G];unfold Bel Bj;by_cases c:x.stack.length=0;·rw[Th (show x.stack.length<1 by omega)];rw[Uw (Oi (Oi (by simp[c])))];rfl
  rw[Pk (show ¬x.stack.length<1 by omega)];simp only[c,Btv];have Z:=Xb x.stack (0,0) c;have a9:x.stack.drop (x.stack.length-1)=[x.stack.getD (x.stack.length-1) (0,0)]:=by
   conv=>lhs;rw[Z]
   rw[Bt4 Hd];simp
  rw[a9];have N:Ed i (x.stack.getD (x.stack.length-1) (0,0)) ⟨x.locals,x.stack.take (x.stack.length-1),false⟩=⟨x.locals,x.stack,false⟩:=by
   unfold Ed;rw[Pk Fr];simp only[<- Z]
  rw[N];unfold Ed Es;by_cases f:i<=(x.stack.length:Int);·rw[Th f];simp[Ew];omega
  rw[Pk f];simp[Ew];omega
 rw[Pk G,Pk G];by_cases I:op=6
 ·rw[Th I,Th I];unfold Baf;by_cases c:x.stack.length=0
  ·rw[Th (show x.stack.length<2 by omega)];have:(Bj ⟨x.locals,x.stack,false⟩).2.br=true:=by unfold Bj;simp[c]
   rw[Uw (Oi (Oi (Bfs this)))];rfl
  have N:Bj ⟨x.locals,x.stack,false⟩=(x.stack.getD (x.stack.length-1) (0,0),⟨x.locals,x.stack.take (x.stack.length-1),false⟩):=by unfold Bj;simp only[c,Btv]
  rw[N];simp only;by_cases a0:x.stack.length<2
  ·rw[Th a0];have:(Bj ⟨x.locals,x.stack.take (x.stack.length-1),false⟩).2.br=true:=by unfold Bj;rw[Th Fr]
   rw[Uw (Oi (Oi this))];rfl
  rw[Pk a0];have e2:Bj ⟨x.locals,x.stack.take (x.stack.length-1),false⟩=(x.stack.getD (x.stack.length-2) (0,0),⟨x.locals,x.stack.take (x.stack.length-2),false⟩):=by
   unfold Bj;rw[Pk Fr];simp only[Btr,Btw,Vm,Bs0];rw[show min (x.stack.length-1) x.stack.length-1=x.stack.length-2 by omega,Th Ck,show min (x.stack.length-2) (x.stack.length-1)=x.stack.length-2 by omega]
  rw[e2];simp only;unfold Ed;have l1:¬i<=((x.stack.take (x.stack.length-2)).length:Int):=Fr;rw[Pk l1];have l2:¬i<=((x.stack.take (x.stack.length-2)++[x.stack.getD (x.stack.length-1) (0,0)]).length:Int):=Fr;simp only[l2,Btv];simp[Ew,Es];omega
 rw[Pk I,Pk I];by_cases J:op=15
 ·rw[Th J,Th J];unfold K5 Ed Es;simp only[Jl];by_cases f:i<=(x.stack.length:Int);·rw[Th f];simp[Ew,Jl];omega
  rw[Pk f];simp[Ew,Jl];omega
 rw[Pk J,Pk J];by_cases v:op=16
 ·rw[Th v,Th v];obtain⟨m,g2,g3⟩:=Wi Q want ⟨x.locals,x.stack,false⟩ V a6;unfold W5 Ns;simp only at m g2 g3;cases j:Ey z x.stack want with
  | false =>
   have:∀t (b:Dv),b.br=true->Ew (Py isNew n t b)=none:=by
    intro t b O;unfold Py K5
    split
    ·rfl
    split
    ·rfl
    exact Uw O
   rw[this _ _ (Bfs (g3 j))];simp[Es]
  | true =>
   obtain⟨A,B⟩:=g2 j;have b4:want.length<=x.stack.length:=by
    unfold Ey at j;by_cases h:x.stack.length<want.length;·rw[Th h]at j;cases j
    omega
   rw[Pk Hd];generalize O:Ga z want ⟨x.locals,x.stack,false⟩=b at *;obtain⟨b0,b1,b2⟩:=b;simp only at m A B;subst m A B;by_cases c:x.stack.length<want.length+1
   ·rw[Th c];have e:Bj ⟨x.locals,x.stack.take (x.stack.length-want.length),false⟩=((0,0),⟨x.locals,x.stack.take (x.stack.length-want.length),true⟩):=by
     unfold Bj;rw[Th Fr]
    rw[e];simp[Py,Ew,Es]
   rw[Pk c];have a3:x.stack.length-want.length-1<x.stack.length:=Ck;have e:Bj ⟨x.locals,x.stack.take (x.stack.length-want.length),false⟩=(x.stack.getD (x.stack.length-want.length-1) (0,0),⟨x.locals,x.stack.take (x.stack.length-want.length-1),false⟩):=by
    unfold Bj;rw[Pk Fr];simp only[Btr,Btw,Vm,Bs0];rw[show min (x.stack.length-want.length) x.stack.length-1=x.stack.length-want.length-1 by omega,Th Ck,show min (x.stack.length-want.length-1) (x.stack.length-want.length)=x.stack.length-want.length-1 by omega]
   rw[e];simp only;have hm:x.stack.getD (x.stack.length-want.length-1) (0,0)∈x.stack:=by
    rw[Vm,Brl a3];exact Brn a3
   generalize x.stack.getD (x.stack.length-want.length-1) (0,0)=t at *;unfold Py;by_cases C:t.1=4
   ·rw[Pk (show ¬t.1≠4 from fun g=>g C),Pk (show ¬t.1≠4 from fun g=>g C)];have a4:=a8 v t hm C;by_cases K:arg t.2=n;·rw[a4.2 K,Pk Hd,Pk (show ¬arg t.2≠n from fun g=>g K)];unfold K5 Es;simp[Ew,Jl];omega
    have:isNew t.2=false:=by
     cases h:isNew t.2
     ·rfl
     exact absurd (a4.1 h) K
    rw[Th this,Th K];rfl
   rw[Th C,Th C];rfl
 rw[Pk v,Pk v];obtain⟨m,g2,g3⟩:=Wi Q l ⟨x.locals,x.stack,false⟩ V a5;simp only at m g2 g3;cases j:Ey z x.stack l with
 | false=>rw[Th rfl,Uw (Xz (g3 j))];rfl
 | true =>
  obtain⟨A,B⟩:=g2 j;rw[Pk Hd];generalize O:Ga z l ⟨x.locals,x.stack,false⟩=b at *;obtain⟨b0,b1,b2⟩:=b;simp only at m A B;subst m A B
  match lv,a7 with
  | [],_ =>
   simp[Gi,Ew,Es];omega
  | [t],_ =>
   simp only[Gi,Ed];by_cases f:i<=((x.stack.take (x.stack.length-l.length)).length:Int);·rw[Th f];simp at f;simp[Ew,Es];omega
   rw[Pk f];simp at f;simp[Ew,Es];omega
def Dw (n:Int):List (List (Int × Int))->Int->Int->Int × Int
 | [],_,_=>(-1,0)
 | own::r,c,f=>if f<=n/\n-f<(own.length:Int) then (c,n-f) else Dw n r (c+1) (f+(own.length:Int))
def Ln (fs:List (List (Int × Int)))(c:Int):List (Int × Int):=if c<0 then [] else fs.getD c.toNat []
def J5 (fs:List (List (Int × Int)))(n:Int):Int × (Int × Int) :=
 if (Dw n fs 0 0).2<0 then (-1,(0,0)) else if ((Ln fs (Dw n fs 0 0).1).length:Int)<=(Dw n fs 0 0).2 then (-1,(0,0))
 else ((Dw n fs 0 0).1,(Ln fs (Dw n fs 0 0).1).getD (Dw n fs 0 0).2.toNat (0,0))
def Ek (T:TI)(fs:List (List (Int × Int)))(c:Int):Nat->List (Int × Int)
 | 0=>[]
 | d+1=>Ek T fs c d++(if Tr.within T c (d:Int)=true then fs.getD d [] else [])
def Dk (T:TI)(fs:List (List (Int × Int)))(c:Int):List (Int × Int):=Ek T fs c fs.length
def Se{z:TI}(c:Tr.Ok z){a B:Int}(e:0<=a)(f:a<(z.length:Int))(g:0<=B):Tr.within z a B=Tr.rbel z a B:=by
 refine Bool.eq_iff_iff.2 ?_;rw[Tr.rbel_iff c e f g];unfold Tr.within Tr.At;simp only[Bwj,Bvb];exact⟨fun h=>h.imp Eq.symm id,fun h=>h.imp Eq.symm id⟩
def Bah{z:TI}(c:Tr.Ok z){a B:Int}(f:0<=a)(e:a<(z.length:Int))(g:a<B):Tr.within z a B=false:=by
 unfold Tr.within;cases h:Tr.below z a B
 ·simp;omega
 have:=Tr.below_lt c Ck e h;omega
def Yc{z:TI}(e:Tr.Ok z)(b:List Rd.Cls){c:Int}(f:0<=c)(g:c<(z.length:Int)):∀d:Nat,Ek z (b.map Rd.Cls.fields) c d=Rf.allTo z b c d
 | 0=>rfl
 | d+1=>by
  rw[Ek,Rf.allTo,Yc e b f g d,Se e f g Ck]
  congr 2
  rw[Vm,Vm,Bsf];cases b[d]? <;> rfl
def Yd{z:TI}(e:Tr.Ok z)(b:List (List (Int×Int))){c:Nat}(f:(c:Int)<(z.length:Int)):∀d:Nat,Ek z b (c:Int) (c+1+d)=Ek z b (c:Int) (c+1)
 | 0=>rfl
 | d+1=>by
  rw[<- Buc,Ek,Yd e b f d,Bah e Ck f Ck];simp
def Un{z:TI}(e:Tr.Ok z)(b:List Rd.Cls)(f:b.length=z.length){c:Nat}(g:c<z.length):Dk z (b.map Rd.Cls.fields) (c:Int)=Rf.all z b c:=by
 unfold Dk Rf.all;rw[<- Yc e b Ck Ck,Br1];have:=Yd e (b.map Rd.Cls.fields) (c:=c) Ck (b.length-(c+1));rw[show c+1+(b.length-(c+1))=b.length by omega]at this;exact this
def Bc9(c b:Int)(own:TP):∀(k i:Nat),i<k->(Rf.ownTo c b own k).getD i ⟨0,0,(0,0)⟩=⟨c,b+(i:Int),own.getD i (0,0)⟩
 | 0,_,h=>Ck
 | k+1,i,h=>by
  rw[Rf.ownTo];by_cases e:i<k;·rw[Vm,Br6 (by rw[Na];exact e),<- Vm];exact Bc9 c b own k i e
  have:i=k:=Ck;subst this;rw[Vm,Br0 (by rw[Na];omega),Na];simp
def Rf.fieldsAt(T:TI)(cs:List Rd.Cls):Nat->Nat->List Rf.Fld
 | _,0=>[]
 | c,j+1=>Rf.ownOf T cs c++Rf.fieldsAt T cs (c+1) j
def Wd(T:TI)(b:List Rd.Cls):∀(j c:Nat),Rf.fieldsAt T b c (j+1)=Rf.fieldsAt T b c j++Rf.ownOf T b (c+j)
 | 0,c=>by simp[Rf.fieldsAt]
 | j+1,c=>by
  rw[Rf.fieldsAt,Wd T b j (c+1),Rf.fieldsAt,Bsi,show c+1+j=c+(j+1) by omega]
def Ye(T:TI)(b:List Rd.Cls):∀j:Nat,Rf.fieldsTo T b j=Rf.fieldsAt T b 7 j
 | 0=>rfl
 | j+1=>by rw[Rf.fieldsTo,Ye T b j,Wd]
def Bc8(T:TI)(b:List Rd.Cls)(n:Nat):∀(j c f:Nat),c+j=b.length->f<=n->n-f<(Rf.fieldsAt T b c j).length ->
  ∃q:Nat,c<=q/\q<b.length/\∃i:Nat,i<(b.getD q ⟨0,[]⟩).fields.length/\Dw (n:Int) ((b.drop c).map Rd.Cls.fields) (c:Int) (f:Int)=((q:Int),(i:Int)) /\
   (Rf.fieldsAt T b c j).getD (n-f) ⟨0,0,(0,0)⟩=⟨(q:Int),((Rf.all T b q).length:Int)-(((b.getD q ⟨0,[]⟩).fields.length:Nat):Int)+(i:Int),(b.getD q ⟨0,[]⟩).fields.getD i (0,0)⟩
 | 0,c,f,hc,hf,h=>by simp[Rf.fieldsAt]at h
 | j+1,c,f,hc,hf,h=>by
  have g:c<b.length:=Ck;rw[Brj g,Bsw,Dw];have l:b.getD c ⟨0,[]⟩=b[c]:=by rw[Vm,Brl g];rfl
  have e:(Rf.ownOf T b c).length=b[c].fields.length:=by rw[Rf.ownOf,Na,l]
  rw[Rf.fieldsAt]at h ⊢;by_cases m:n-f<b[c].fields.length
  ·refine⟨c,Bru _,g,n-f,by rw[l];exact m,?_,?_⟩
   ·rw[Th Ck]
    congr 1;omega
   rw[Vm,Br6 (by rw[e];exact m),<- Vm,Rf.ownOf,Bc9 _ _ _ _ _ (by rw[l];exact m)]
  rw[Pk Ck];obtain⟨q,z,p,i,s,t,v⟩:=Bc8 T b n j (c+1) (f+b[c].fields.length) Ck Ck (by rw[Ws,e]at h;omega);refine⟨q,Ck,p,i,s,?_,?_⟩
  ·rw[<- t];push_cast;rfl
  rw[Vm,Br0 (by rw[e];omega),<- Vm,e,<- v];congr 1;omega
def Ba0(n:Int)(r:List (List (Int×Int)))(f:Int):∀(k:Nat) (c:Int),Dw n (List.replicate k []++r) c f=Dw n r (c+(k:Int)) f
 | 0,c=>Hd
 | k+1,c=>by
  rw[List.replicate_succ,Bs5,Dw,Pk Hd];simp only[Bs2];rw[show f+((0:Nat):Int)=f by omega,Ba0 n r f k (c+1)]
  congr 1;omega
def Bc6(T:TI)(b:List Rd.Cls)(t:7<=b.length)(f:∀i,i<7->(b.getD i ⟨0,[]⟩).fields=[])(n:Nat)(c:n<(Rf.fieldsTo T b (b.length-7)).length):∃q:Nat,7<=q/\q<b.length/\∃i:Nat,i<(b.getD q ⟨0,[]⟩).fields.length/\Dw (n:Int) (b.map Rd.Cls.fields) 0 0=((q:Int),(i:Int))/\Ln (b.map Rd.Cls.fields) (q:Int)=(b.getD q ⟨0,[]⟩).fields/\(Rf.fieldsTo T b (b.length-7)).getD n ⟨0,0,(0,0)⟩=⟨(q:Int),((Rf.all T b q).length:Int)-(((b.getD q ⟨0,[]⟩).fields.length:Nat):Int)+(i:Int),(b.getD q ⟨0,[]⟩).fields.getD i (0,0)⟩:=by
 rw[Ye]at c ⊢;obtain⟨q,g,h,i,j,l,m⟩:=Bc8 T b n (b.length-7) 7 0 Ck Ck (by simpa using c);have e:b.map Rd.Cls.fields=List.replicate 7 []++(b.drop 7).map Rd.Cls.fields:=by
  conv=>lhs;rw[<- Bua 7 b,Bse]
  congr 1
  apply List.ext_getElem
  ·simp;omega
  intro i v p;have s:i<7:=by simpa using p
  have:=f i s;rw[Vm,Brl Ck]at this;rw[List.getElem_map,List.getElem_take,List.getElem_replicate];simpa using this
 refine⟨q,g,h,i,j,by rw[e,Ba0];exact l,?_,m⟩;unfold Ln;rw[Pk Ck,Vm,Bsf,Vm,Brx];cases b[q]? <;> rfl
def Yx(T:TI)(b:List Rd.Cls)(c:7<=b.length)(e:∀i,i<7->(b.getD i ⟨0,[]⟩).fields=[])(n:Nat)(f:n<(Rf.fieldsTo T b (b.length-7)).length):J5 (b.map Rd.Cls.fields) (n:Int)=(((Rf.fieldsTo T b (b.length-7)).getD n ⟨0,0,(0,0)⟩).owner,((Rf.fieldsTo T b (b.length-7)).getD n ⟨0,0,(0,0)⟩).t):=by
 obtain⟨q,_,_,i,l,g,h,j⟩:=Bc6 T b c e n f;unfold J5;rw[g];simp only;rw[Pk Ck,h,Pk Ck,Brx,j]
def I9 (T:TI)(isN:Int->Prop)(t:Int × Int):Prop:=Tr.Arg T t.1 t.2/\(t.1=4->isN t.2)
structure As(T:List Int)(lo:Nat)(hi:Int)(isN:Int->Prop)(x:Bf):Prop where
 lo:x.locals.length=lo
 hi:(x.stack.length:Int)<=hi
 tl:∀t∈x.locals,I9 T isN t
 ts:∀t∈x.stack,I9 T isN t
def Yj(T:TI)(b:Int->Prop):I9 T b (0,0):=⟨.inl ⟨rfl,rfl⟩,fun h=>absurd h Fm⟩
def Tx{z:TI}{c:Int->Prop}{a b:Int×Int}{q:TP}(f:I9 z c b)(h:∀t∈q,I9 z c t):∀t∈Ci a b q,I9 z c t:=by
 intro t e;unfold Ci at e;obtain⟨y,g,rfl⟩:=List.mem_map.1 e
 split
 ·exact f
 exact h y g
def Hf{α:Type}{l:List α}{u:Nat}{d:α}(h:u<l.length):l.getD u d∈l:=by
 rw[Vm,Brl h];exact Brn h
def Vu{α:Type}{l:List α}{u:Nat}{d t:α}(h:t∈l.set u d):t∈l\/t=d:=by
 rcases Bv5 h with h|h
 ·exact .inl h
 exact .inr h
def Bl4{T:TI}{u:Nat}{c:Int}{g:Int->Prop}(v lv A:TP)(arg:Int->Int)(p op n:Int)(x y:Bf)(f:As T u c g x) (I:∀t∈lv,I9 T g t)(J:op=2->0<=n/\n<(u:Int))(K:op=15->I9 T g (4,p))(L:op=16->0<=n/\n<(T.length:Int)) (h:Es c (K9 T v lv A arg p op n x)=some y):As T u c g y:=by
 unfold Es at h;cases b:K9 T v lv A arg p op n x with
 | none=>rw[b]at h;cases h
 | some z =>
  rw[b]at h;simp only[Bt7]at h;by_cases j:(z.stack.length:Int)<=c
  ·rw[Th j]at h;obtain rfl:=Option.some.inj h
   suffices l:z.locals.length=u/\(∀t∈z.locals,I9 T g t)/\(∀t∈z.stack,I9 T g t) from ⟨l.1,j,l.2.1,l.2.2⟩
   have i:∀k,∀t∈x.stack.take k,I9 T g t:=fun k t e=>f.ts t (Bwy e);unfold K9 at b;by_cases m:op=2
   ·rw[Th m]at b
    split at b
    ·cases b
    obtain rfl:=Option.some.inj b;refine⟨f.lo,f.tl,fun t e=>?_⟩;rcases List.mem_append.1 e with e|e
    ·exact f.ts t e
    obtain rfl:=List.mem_singleton.1 e;have:=J m;exact f.tl _ (Hf (by have:=f.lo;omega))
   rw[Pk m]at b;by_cases B:op=3
   ·rw[Th B]at b
    split at b
    ·cases b
    rename_i N;obtain rfl:=Option.some.inj b;refine⟨by simpa using f.lo,fun t e=>?_,fun t e=>i _ t e⟩;rcases Vu e with e|rfl
    ·exact f.tl t e
    exact f.ts _ (Hf Ck)
   rw[Pk B]at b;by_cases C:op=4
   ·rw[Th C]at b
    split at b
    ·cases b
    obtain rfl:=Option.some.inj b;exact⟨f.lo,f.tl,fun t e=>i _ t e⟩
   rw[Pk C]at b;by_cases D:op=5
   ·rw[Th D]at b
    split at b
    ·cases b
    obtain rfl:=Option.some.inj b;refine⟨f.lo,f.tl,fun t e=>?_⟩;rcases List.mem_append.1 e with e|e
    ·exact f.ts t e
    exact f.ts t (Btk e)
   rw[Pk D]at b;by_cases F:op=6
   ·rw[Th F]at b
    split at b
    ·cases b
    rename_i N;obtain rfl:=Option.some.inj b;refine⟨f.lo,f.tl,fun t e=>?_⟩;rcases List.mem_append.1 e with e|e
    ·exact i _ t e
    simp only[Bub,Buh,Bv8]at e;rcases e with rfl|rfl
    ·exact f.ts _ (Hf Ck)
    exact f.ts _ (Hf Ck)
   rw[Pk F]at b;by_cases q:op=15
   ·rw[Th q]at b;obtain rfl:=Option.some.inj b;refine⟨by rw[Jl];exact f.lo,Tx (Yj T g) f.tl,fun t e=>?_⟩;rcases List.mem_append.1 e with e|e
    ·exact Tx (Yj T g) f.ts t e
    obtain rfl:=List.mem_singleton.1 e;exact K q
   rw[Pk q]at b;by_cases s:op=16
   ·rw[Th s]at b;have G:I9 T g (3,n):=⟨.inr (.inr (.inr (.inl ⟨rfl,L s⟩))),fun h=>absurd h Hd⟩;unfold Ns at b
    split at b
    ·cases b
    split at b
    ·cases b
    split at b
    ·cases b
    split at b
    ·cases b
    obtain rfl:=Option.some.inj b;exact⟨by rw[Jl];exact f.lo,Tx G f.tl,Tx G (i _)⟩
   rw[Pk s]at b
   split at b
   ·cases b
   obtain rfl:=Option.some.inj b;refine⟨f.lo,f.tl,fun t e=>?_⟩;rcases List.mem_append.1 e with e|e
   ·exact i _ t e
   exact I t e
  rw[Pk j]at h;cases h
def J0 (mp:Nat->Option Bf)(rl:Nat->Bf->Option Bf)(go:Nat->Bool)(p:Nat)(o:Option Bf):Option Bf :=
 ((mp p).or o).bind fun x=>(rl p x).bind fun z=>if go p=true then some z else none
def Gu (mp:Nat->Option Bf)(rl:Nat->Bf->Option Bf)(go:Nat->Bool)(q:Nat):List Nat->Option Bf->Option Bf
 | [],o=>o
 | p::r,o=>if q<p then o else if p=q then (mp p).or o else Gu mp rl go q r (J0 mp rl go p o)
def Gd (ah:Nat->Option Bf)(lk:Nat->Bf->Int):List Nat->Int × Int
 | []=>(0,0)
 | p::r=>match ah p with
  | none=>Gd ah lk r
  | some x=>if lk p x≠0 then (lk p x,(p:Int)) else Gd ah lk r
def Rh (mp:Nat->Option Bf)(rl:Nat->Bf->Option Bf)(go:Nat->Bool)(lk:Nat->Bf->Int):List Nat->Option Bf->Int × Int
 | [],_=>(0,0)
 | p::r,o=>match (mp p).or o with
  | none=>Rh mp rl go lk r none
  | some x=>if lk p x≠0 then (lk p x,(p:Int)) else Rh mp rl go lk r (J0 mp rl go p o)
def W4(mp:Nat->Option Bf)(b:Nat->Bf->Option Bf)(c:Nat->Bool)(q:Nat)(r:List Nat):∀(d:List Nat) (o:Option Bf),(∀p∈d,p<q) ->
  Gu mp b c q (d++q::r) o=(mp q).or (d.foldl (fun o p=>J0 mp b c p o) o)
 | [],o,_=>by simp[Gu]
 | p::d,o,h=>by
  have f:=h p Hd;rw[Bs5,Gu,Pk Ck,Pk Ck,W4 mp b c q r d _ (fun x e=>h x (by simp[e]))];rfl
def Wq(mp:Nat->Option Bf)(b:Nat->Bf->Option Bf)(c:Nat->Bool)(f:Nat->Bf->Int)(e:Option Bf):∀(r d:List Nat),(d++r).Pairwise (· < ·) ->
  Gd (fun q=>Gu mp b c q (d++r) e) f r=Rh mp b c f r (d.foldl (fun o p=>J0 mp b c p o) e)
 | [],d,_=>by simp[Gd,Rh]
 | p::r,d,h=>by
  have i:∀q∈d,q<p:=fun q j=>(List.pairwise_append.1 h).2.2 q j p Hd;have g:=Wq mp b c f e r (d++[p]) (by simpa using h);rw[Bsi,List.singleton_append,List.foldl_append]at g;simp only[List.foldl_cons,List.foldl_nil]at g;rw[Gd,Rh,W4 mp b c p r d e i,g];generalize List.foldl (fun o p=>J0 mp b c p o) e d=o;cases l:(mp p).or o with
  | none =>
   have:J0 mp b c p o=none:=by unfold J0;rw[l];rfl
   simp only[this]
  | some x=>rfl
def J1 (T:TI)(mp:Int->Option Bf)(H:Int)(R:Option Bf)(op n nxt len:Int):Int :=
 if H≠0 then H else if R.isSome=false then 10
 else if Ei op=true/\(mp n).isSome=false then 8
 else if Ei op=true/\Cj T (Cu R) (Cu (mp n))=false then 9
 else if Dl op=false then 0 else if len<=nxt then 11
 else if (mp nxt).isSome=true/\Cj T (Cu R) (Cu (mp nxt))=false then 9 else 0
def Dg{w:TW}{u b t:Nat}{l:TX}(h:t≠u):(w.setCell (.a u b) l).heap[t]?=w.heap[t]?:=Brk _ _ _ _ (by simpa using h)
def Pu{w:TW}{u:Nat}{x y:TX}{ty:TypeId}(h:w.heap[u]?=some (.cells #[x,y] ty (0,0)))(s t:TX):((w.setCell (.a u 0) s).setCell (.a u 1) t).heap[u]?=some (.cells #[s,t] ty (0,0)):=by
 have b:(w.setCell (.a u 0) s).heap[u]?=some (.cells #[s,y] ty (0,0)):=by rw[Bt h];rfl
 rw[Bt b];rfl
def Hx{w:TW}{u b:Nat}{l t:TX}(h:b≠u):((w.setCell (.a u 0) l).setCell (.a u 1) t).heap[b]?=w.heap[b]?:=(Dg h).trans (Dg h)
def FrV.is.set2{v:FrV}{x:Bf}{w:TW}{u:Nat}{g f:TA}{b t O i:Nat}{ty:TypeId}(h:v.is x w)(e:w.heap[u]?=some (.cells #[.s g b t,.s f O i] ty (0,0)))(s c:TX):v.is x ((w.setCell (.a u 0) s).setCell (.a u 1) c):=⟨h.lo.set_frame e s c,h.st.set_frame e s c,h.hl,h.hs⟩
theorem Bf4{w:World}{k:Nat}{c B e f i j l m:Int}{g p q:Option Addr}{b t O s v z:Nat}{A:ByteArray}(h:w.heap[k]?=some (O12 c B g b t e f i j A p O s q v z l m)):w.cell? ⟨k,0,none⟩=some (.int .i64 c)/\w.cell? ⟨k,1,none⟩=some (.int .i64 B)/\w.cell? ⟨k,2,none⟩=some (.slice g b t)/\w.cell? ⟨k,3,none⟩=some (.int .i64 e)/\w.cell? ⟨k,4,none⟩=some (.int .i64 f)/\w.cell? ⟨k,5,none⟩=some (.int .i64 i)/\w.cell? ⟨k,6,none⟩=some (.int .i64 j)/\w.cell? ⟨k,7,none⟩=some (.string A)/\w.cell? ⟨k,8,none⟩=some (.slice p O s)/\w.cell? ⟨k,9,none⟩=some (.slice q v z)/\w.cell? ⟨k,10,none⟩=some (.int .i64 l)/\w.cell? ⟨k,11,none⟩=some (.int .i64 m):=by
 refine⟨?_,?_,?_,?_,?_,?_,?_,?_,?_,?_,?_,?_⟩
 all_goals (rw[Bb h];rfl)
def Bji(f:RFv)(T:TI)(m:RMV)(p:Nat)(mp:Int->Option Bf)(H:Int)(R:Option Bf)(v:FrV)(w:TW)(hF:f.fitsAs T w)(hp:p<m.code.size)(hs:m.code.size<=100000) (hH:∀c,Bl w c->Calls prog 229 #[f.val,m.val,.i (p:Int),v.val] c fun e b2=>e=.r (.i H)/\Bl c b2) (hR:∀c,Bl w c->Calls prog 227 #[f.val,m.val,.i (p:Int),v.val] c fun e b2=>∃u:FrV,e=.r (.tuple #[u.val,.bool R.isSome])/\(∀y,R=some y->u.is y b2)/\Bl c b2) (d3:∀q c,Bl w c->Calls prog 172 #[m.val,.i q] c fun e b2=>∃u:FrV,e=.r (.tuple #[u.val,.bool (mp q).isSome])/\u.is (Cu (mp q)) b2/\Bl c b2):Calls prog 176 #[f.val,m.val,.i (p:Int),v.val] w fun e c => e=.r (.i (J1 T mp H R ((Ca m.code).getD p 0) (Rf.at' m.code.data.toList ((p:Int)+1)) ((p+Cd.wd ((Ca m.code).getD p 0):Nat):Int) (m.code.size:Int)))/\Bl w c:=by
 have d4:=fun (u u':FrV) (y y':Bf) c (h:Bl w c) hu g2=>Pv f T u u' y y' c (hF.below h) hu g2;have d5:=fun c=>Mz m p c hp hs;have c6:=fun c=>Lz m p c hp hs;rw[Kq _ _ hp]at c6 ⊢;have hJ:=fun c=>Bgy (m.code[p].toNat:Int) c;have hG:=fun c=>Bat (m.code[p].toNat:Int) c;have g3:IntKind.i64.wrap ((m.code[p].toNat:Nat):Int)=((m.code[p].toNat:Nat):Int):=Cx _ Ck (by have:=m.code[p].toNat_lt;omega);generalize b:J1 T mp H R (m.code[p].toNat:Int) (Rf.at' m.code.data.toList ((p:Int)+1)) ((p+Cd.wd (m.code[p].toNat:Int):Nat):Int) (m.code.size:Int)=A;unfold J1 at b;generalize Rf.at' m.code.data.toList ((p:Int)+1)=arg at *;generalize d9:p+Cd.wd (m.code[p].toNat:Int)=D at *;have h9:D<=200000:=by have:=Cd.wd_bd (m.code[p].toNat:Int);omega
 obtain⟨c7,fl,c8,c9,fm,d0⟩:=f;obtain⟨cl,nm,pa,pl,pc,r1,r2,lo,st,F,ha,hl,hc,ma,ml,mc,b9,c0⟩:=m;obtain⟨la,ln,lc,sa,sn,sc⟩:=v;simp only[RMV.val,RFv.val,FrV.val]at hp hs hH hR d3 d4 d5 c6 hJ hG g3 b d9 ⊢;have i0:(p:Int)<(F.size:Int):=Ck;generalize Ei (F[p].toNat:Int)=J at *;generalize Dl (F[p].toNat:Int)=G at *;have b4:=Em w (O11 c7 fl c8 c9 fm d0) (O12 cl nm pa pl pc r1 r2 lo st F ha hl hc ma ml mc b9 c0) (O21 la ln lc sa sn sc);obtain⟨F0,M0,X0⟩:=Nz w (O11 c7 fl c8 c9 fm d0) (O12 cl nm pa pl pc r1 r2 lo st F ha hl hc ma ml mc b9 c0) (O21 la ln lc sa sn sc);have HH:=Bc hH;have HR:=Bc hR;have f2:=Bc d3;have f3:=Bc d4;have f4:=Bc d5;have g4:=Bc c6;have HJ:=Bc hJ;have HG:=Bc hG;clear hH hR d3 d4 d5 c6 hJ hG hF d9;by_cases h0:H=0
 ·subst h0;rw[Pk Hd]at b;cases R with
  | none =>
   rw[Th Hd]at b;have HA:=Bc b;clear b;go_in;go_wp2_with fail;refine Qb (Ba HH _ b4) b4 ?_;intro w1 V Y;have g5:=Y.size;have F1:=stay V F0;have M1:=stay V M0;have X1:=stay V X0;clear V F0 M0 X0;obtain⟨f0,f1⟩:=cl2 F1;simp at f0 f1;obtain⟨Z,m1,m2,m3,m4,m5,m6,t,m8,m9,a0,a1⟩:=El M1;simp at Z m1 m2 m3 m4 m5 m6 t m8 m9 a0 a1;obtain⟨x0,x1⟩:=cl2 X1;simp at x0 x1;go_wp2_with fail;refine(Ba HR _ Y).mono ?_;rintro e w2 ⟨u,rfl,-,b5⟩;obtain⟨I,K,L,N,O,vc⟩:=u;have b6:=QB Y b5;have d6:=b6.size;go_wp2;go_ret;exact⟨by rw[<- Ba HA];rfl,b6.alloc d6 _⟩
  | some y =>
   rw[Pk Hd]at b;rw[show Cu (some y)=y from rfl]at b;have HA:=Bc b;clear b;go_in;go_wp2_with fail;refine Qb (Ba HH _ b4) b4 ?_;intro w1 V Y;have g5:=Y.size;have F1:=stay V F0;have M1:=stay V M0;have X1:=stay V X0;clear V F0 M0 X0;obtain⟨f0,f1⟩:=cl2 F1;simp at f0 f1;obtain⟨Z,m1,m2,m3,m4,m5,m6,t,m8,m9,a0,a1⟩:=El M1;simp at Z m1 m2 m3 m4 m5 m6 t m8 m9 a0 a1;obtain⟨x0,x1⟩:=cl2 X1;simp at x0 x1;go_wp2_with fail;refine(Ba HR _ Y).mono ?_;rintro e w2 ⟨u,rfl,f5,b5⟩;have hu:=f5 y rfl;clear f5;obtain⟨I,K,L,N,O,vc⟩:=u;have b6:=QB Y b5;have d6:=b6.size;have F2:=stay b5 F1;have M2:=stay b5 M1;have f6:=b6.alloc d6 (O21 I K L N O vc);have f7:=hu.below (QN (O21 I K L N O vc));clear b5 F1 M1 X1 f0 f1 Z m1 m2 m3 m4 m5 m6 t m8 m9 a0 a1 x0 x1 hu b6 Y;have t:=Bb M2 7;have lM:=Sp M2;simp at t;go_wp2_with fail;refine Qb (Ba HJ _) f6 ?_;intro w4 c1 a2;have F4:=stay c1 (Bg F2 (O21 I K L N O vc));have M4:=stay c1 (Bg M2 (O21 I K L N O vc));have Y4:=stay c1 (Be w2 (O21 I K L N O vc));have b7:=f7.below c1;clear c1 F2 M2 t lM f7 f6
   go_upto_if 45 with fail
   go_cut [11,14,15] from 46 (fun _ _ _ B=>Bl w B/\B.heap[w.heap.size]?=some (O11 c7 fl c8 c9 fm d0)/\B.heap[w.heap.size+1]?=some (O12 cl nm pa pl pc r1 r2 lo st F ha hl hc ma ml mc b9 c0)/\B.heap[w2.heap.size]?=some (O21 I K L N O vc) /\
    FrV.is ⟨I,K,L,N,O,vc⟩ y B/\Hid ((if G=false then 0 else if (F.size:Int)<=(D:Int) then 11 else if (mp (D:Int)).isSome=true/\Cj T y (Cu (mp (D:Int)))=false then 9 else 0)=A))
   case first=>
    have b:=Ba HA;cases J with
    | false =>
     have g6:Hid ((if G=false then 0 else if (F.size:Int)<=(D:Int) then 11 else if (mp (D:Int)).isSome=true/\Cj T y (Cu (mp (D:Int)))=false then 9 else 0)=A):=by
      unfold Hid;rw[<- b,Pk (show ¬(false=true/\_) by simp),Pk (show ¬(false=true/\_) by simp)]
     clear b HA;go_wp2
     go_meet
     case rel=>exact⟨a2,F4,M4,Y4,b7,g6⟩
    | true =>
     have g7:=Sp M4;have g8:=Sp Y4;have b3:=a2.size
     go_upto_region 10 with fail
     go_cut [14,15] from 46 (fun g9 h1 B=>∃(zb:Nat) (u2:FrV),g9=.q zb 0/\h1=.bool (mp arg).isSome/\B.heap[zb]?=some (O21 u2.la u2.ln u2.lc u2.sa u2.sn u2.sc)/\u2.is (Cu (mp arg)) B /\
      Bl w B/\B.heap[w.heap.size]?=some (O11 c7 fl c8 c9 fm d0)/\B.heap[w.heap.size+1]?=some (O12 cl nm pa pl pc r1 r2 lo st F ha hl hc ma ml mc b9 c0)/\B.heap[w2.heap.size]?=some (O21 I K L N O vc)/\FrV.is ⟨I,K,L,N,O,vc⟩ y B)
     case first=>
      go_wp2
      go_region_held3 (fun c=>c.C (w.heap.size+1) 0 (.i cl)/\c.C (w.heap.size+1) 1 (.i nm)/\c.C (w.heap.size+1) 2 (.s pa pl pc)/\c.C (w.heap.size+1) 3 (.i r1)/\c.C (w.heap.size+1) 4 (.i r2)/\c.C (w.heap.size+1) 5 (.i lo)/\c.C (w.heap.size+1) 6 (.i st)/\c.C (w.heap.size+1) 7 (.string F)/\c.C (w.heap.size+1) 8 (.s ha hl hc)/\c.C (w.heap.size+1) 9 (.s ma ml mc)/\c.C (w.heap.size+1) 10 (.i b9)/\c.C (w.heap.size+1) 11 (.i c0))
       (exact Bf4 (by repeat (first|exact M4|refine Bg ?_ _|refine stay j ?_|refine stay g ?_|refine(Dg Bd).trans ?_)))
       (first|(go_at_call 100;refine Qm (Ba f4 _) ?_;intro w5 j;have c2:w4.heap.size<=w5.heap.size:=Br5 (by first|exact Bru _|(simp;done)) j.size;try have Z5:=stay j (Be _ _))|(go_at_call 172;refine(Ba f2 arg _ (by first|exact a2.drew.trans (j.mono b3)|exact(a2.drew.trans (j.mono b3)).alloc Ck _|exact(a2.drew.alloc b3 _).trans (j.mono Fr))).mono ?_;rintro e w6 ⟨u2,rfl,d7,g⟩;have i1:w4.heap.size<=w6.heap.size:=Br5 (by first|exact Bru _|exact c2|(simp;omega)) g.size;obtain⟨a6,a7,a8,a9,b0,b1⟩:=u2;(first|have Q:=stay g Z5 | have Q:=stay g (Be _ _)|skip);try (have h2:=Bb Q 0;have h3:=Bb Q 1;have i2:=Bk Q 0;have i3:=Bk Q 1;simp at h2 h3)))
      all_goals
       go_wp2
       go_meet
      ·have a3:=a2.drew.trans (j.mono b3);have a4:=a3.trans (g.mono Ck);exact⟨w6.heap.size,⟨a6,a7,a8,a9,b0,b1⟩,rfl,rfl,Be w6 _,d7.below (QN _),a4.alloc Ck _,Bg (stay g (stay j F4)) _,Bg (stay g (stay j M4)) _,Bg (stay g (stay j Y4)) _,(((b7.below (Brm _ _).drew).below j).below g).below (QN _)⟩
      ·have a3:=a2.drew.trans (j.mono b3);have a4:=(a3.alloc Ck _).trans (g.mono Fr);have ll:=Sp (stay j Y4);have lm:=Sp (stay j M4);exact⟨w5.heap.size,⟨a6,a7,a8,a9,b0,b1⟩,rfl,rfl,Pu Q _ _,d7.set2 Q _ _,(a4.setCell Fr _).setCell Fr _,(Hx Ck).trans (stay g (Bg (stay j F4) _)),(Hx Ck).trans (stay g (Bg (stay j M4) _)),(Hx Ck).trans (stay g (Bg (stay j Y4) _)),
        ((((b7.below (Brm _ _).drew).below j).below (QN _)).below g).set2 Q _ _⟩
      have a3:=(a2.alloc b3 (O21 none 0 0 none 0 0)).drew.trans (j.mono Fr);have a4:=a3.trans (g.mono Ck);exact⟨w4.heap.size,⟨a6,a7,a8,a9,b0,b1⟩,rfl,rfl,Pu Q _ _,d7.set2 Q _ _,(a4.setCell Fr _).setCell Fr _,(Hx Ck).trans (stay g (stay j (Bg F4 _))),(Hx Ck).trans (stay g (stay j (Bg M4 _))),(Hx Ck).trans (stay g (stay j (Bg Y4 _))),
       ((((b7.below (QN _)).below (Brm _ _).drew).below j).below g).set2 Q _ _⟩
     case rest=>
      obtain⟨zb,u2,rfl,rfl,Z7,h4,a5,F7,M7,Y7,c3⟩:=hcut;obtain⟨a6,a7,a8,a9,b0,b1⟩:=u2;have d1:=a5.size;simp only at Z7;clear F4 M4 Y4 b7 a2 b3 g7 g8;generalize i4:mp arg=MA at *;cases MA with
      | none =>
       rw[Th Hd]at b;have HE:=Bc b;clear b;go_wp2;go_ret;exact⟨by rw[<- Ba HE];rfl,a5⟩
      | some z =>
       rw[Pk Hd]at b;have c4:=Ba f3 ⟨I,K,L,N,O,vc⟩ ⟨a6,a7,a8,a9,b0,b1⟩ _ _ _ a5 c3 h4;simp only[Buw]at b;generalize Cj T y (Cu (some z))=FB at *;have d2:=Bc c4;obtain⟨f0,f1⟩:=cl2 F7;obtain⟨y0,y1⟩:=cl2 Y7;obtain⟨z0,z1⟩:=cl2 Z7;simp at f0 f1 y0 y1 z0 z1;clear c4;cases FB with
       | false =>
        rw[Th rfl]at b;have HE:=Bc b;clear b;go_wp2_with fail;refine Qm (Ba d2) ?_;intro w8 l;have b8:=a5.trans (l.mono d1);go_wp2;go_ret;exact⟨by rw[<- Ba HE];rfl,b8⟩
       | true =>
        rw[Pk Hd]at b;have HE:=Bc b;clear b;go_wp2_with fail;refine Qm (Ba d2) ?_;intro w8 l;have b8:=a5.trans (l.mono d1);have F8:=stay l F7;have M8:=stay l M7;have Y8:=stay l Y7;have d8:=c3.below l;clear f0 f1 y0 y1 z0 z1 l;go_wp2
        go_meet
        case rel=>exact⟨b8,F8,M8,Y8,d8,HE⟩
   case rest=>
    obtain⟨a3,F5,M5,Y5,f8,HE⟩:=hcut;have c2:=a3.size;clear HA F4 M4 Y4 b7 a2 HJ HH HR f4;have b:=Ba HE;cases G with
    | false =>
     rw[Th rfl]at b;have HF:=Bc b;clear b HE;go_wp2_with fail;refine Qm (Ba HG _) ?_;intro w6 g;have a4:=a3.trans (g.mono c2);go_wp2;go_ret;exact⟨by rw[<- Ba HF];rfl,a4⟩
    | true =>
     rw[Pk Hd]at b;go_wp2_with fail;refine Qm (Ba HG _) ?_;intro w6 g;have a4:=a3.trans (g.mono c2);have F6:=stay g F5;have M6:=stay g M5;have Y6:=stay g Y5;have f9:=f8.below g;clear g F5 M5 Y5 f8 HE HG;obtain⟨Z,m1,m2,m3,m4,m5,m6,t,m8,m9,a0,a1⟩:=El M6;simp at Z m1 m2 m3 m4 m5 m6 t m8 m9 a0 a1;go_wp2_with fail;refine Qb (Ba g4 _) a4 ?_;intro w7 c5 a5;have F7:=stay c5 F6;have M7:=stay c5 M6;have Y7:=stay c5 Y6;have c3:=f9.below c5;have d1:=a5.size;clear c5 F6 M6 Y6 f9 Z m1 m2 m3 m4 m5 m6 t m8 m9 a0 a1 a4 a3 c2;obtain⟨Z,m1,m2,m3,m4,m5,m6,t,m8,m9,a0,a1⟩:=El M7;simp at Z m1 m2 m3 m4 m5 m6 t m8 m9 a0 a1;by_cases g0:(F.size:Int)<=(D:Int);·rw[Th g0]at b;have HF:=Bc b;clear b;go_wp2;go_ret;exact⟨by rw[<- Ba HF];rfl,a5⟩
     rw[Pk g0]at b;have i5:(D:Int)<(F.size:Int):=Ck;go_wp2_with fail;refine(Ba f2 (D:Int) _ a5).mono ?_;rintro e w8 ⟨u2,rfl,h5,l⟩;obtain⟨a6,a7,a8,a9,b0,b1⟩:=u2;have b8:=a5.trans (l.mono d1);have h6:=b8.size;have F8:=stay l F7;have Y8:=stay l Y7;have d8:=c3.below l;clear l F7 M7 Y7 c3 Z m1 m2 m3 m4 m5 m6 t m8 m9 a0 a1;have g1:=b8.alloc h6 (O21 a6 a7 a8 a9 b0 b1);have c4:=Ba f3 ⟨I,K,L,N,O,vc⟩ ⟨a6,a7,a8,a9,b0,b1⟩ _ _ _ g1 (d8.below (QN _)) (h5.below (QN _));generalize Cj T y (Cu (mp (D:Int)))=FB at *;generalize (mp (D:Int)).isSome=SB at *;have d2:=Bc c4;obtain⟨f0,f1⟩:=cl2 F8;obtain⟨y0,y1⟩:=cl2 Y8;have lF:=Sp F8;have lY:=Sp Y8;simp at f0 f1 y0 y1;have HF:=Bc b;clear c4 b;go_wp2_with fail;refine Qb (Ba d2) g1 ?_;intro w9 i6 h7;have b:=Ba HF;cases SB<;>cases FB<;>simp at b<;>(have h8:=Bc b;clear b HF;go_wp2;go_ret;exact⟨by rw[<- Ba h8];rfl,h7⟩)
 rw[Th h0]at b;have HA:=Bc b;have i7:(H != 0)=true:=by simpa using h0
 clear b h0;go_in;go_wp2_with fail;refine Qb (Ba HH _ b4) b4 ?_;intro w1 V Y;go_wp2;go_ret;exact⟨by rw[<- Ba HA];rfl,Y⟩
def Ap(mp:Nat->Option Bf)(b:Nat->Bf->Option Bf)(e:Nat->Bool)(c:TI)(q k p:Nat)(o:Option Bf)(h:q<p\/c.length<=p):Gu mp b e q (Cd.starts c k p) o=o:=by
 rcases h with h|h
 ·cases k with
  | zero=>rfl
  | succ j =>
   unfold Cd.starts
   split
   ·rw[Gu,Th h]
   rfl
 rw[Cd.starts_end h];rfl
def Bg1(f:RFv)(m:RMV)(q:Nat)(mp:Nat->Option Bf)(l:Nat->Bf->Option Bf)(B:Bf)(P:Bf->Prop)(w:TW)(hs:m.code.size<=100000)(hq:q<=100000) (d6:∀b,Bl w b->Calls prog 174 #[m.val] b fun e a3=>∃u:FrV,e=.returned u.val/\u.is B a3/\Bl b a3) (d7:∀(q:Nat) b,Bl w b->Calls prog 172 #[m.val,.i (q:Int)] b fun e a3=>∃u:FrV,e=.r (.tuple #[u.val,.bool (mp q).isSome])/\u.is (Cu (mp q)) a3/\Bl b a3) (d8:∀(q:Nat) (v:FrV) (x:Bf) b,Bl w b->q∈Cd.places (Ca m.code)->v.is x b->P x->Calls prog 227 #[f.val,m.val,.i (q:Int),v.val] b fun e a3=>∃u:FrV,e=.r (.tuple #[u.val,.bool (l q x).isSome])/\(∀y,l q x=some y->u.is y a3)/\Bl b a3) (g8:P B)(g9:∀q z,mp q=some z->P z)(h0:∀q x y,q∈Cd.places (Ca m.code)->P x->l q x=some y->P y):Calls prog 175 #[f.val,m.val,.i (q:Int)] w fun e b=>∃u:FrV, e=.r (.tuple #[u.val,.bool (Gu mp l (fun p=>Dl ((Ca m.code).getD p 0)) q (Cd.places (Ca m.code)) (some B)).isSome])/\(∀y,Gu mp l (fun p=>Dl ((Ca m.code).getD p 0)) q (Cd.places (Ca m.code)) (some B)=some y->u.is y b/\P y)/\Bl w b:=by
 have d9:=fun p b hp=>Lz m p b hp hs;have j0:=He m.code;have c7:=Kq m.code;generalize h2:(fun p=>Dl ((Ca m.code).getD p 0))=C;have f2:∀p (hp:p<m.code.size),C p=Dl (m.code[p].toNat:Int):=fun p hp=>by rw[<- h2];simp only;rw[c7 p hp]
 generalize hA:Gu mp l C q (Cd.places (Ca m.code)) (some B)=A;have hD:([]:List Nat)++Cd.starts (Ca m.code) (Ca m.code).length 0=Cd.places (Ca m.code):=rfl;have h3:Gu mp l C q (Cd.starts (Ca m.code) (Ca m.code).length 0) (some B)=A:=hA;generalize Ca m.code=c at *;obtain⟨c8,fl,c9,d0,fm,d1⟩:=f;obtain⟨cl,nm,pa,pl,pc,r1,r2,lo,st,O,ha,hl,hc,ma,ml,mc,c2,c3⟩:=m;simp only[RMV.val,RFv.val,FrV.val]at hs d6 d7 d8 d9 j0 c7 f2 ⊢;have h4:=Bc d6;have j1:=Bc d7;have j2:=Bc d8;have j3:=Bc d9;have j4:=Bc g9;have j5:=Bc h0;have j6:=Bc f2;have j7:=Bc c7;have HA:=Bc h3;have HD:=Bc hD;clear d6 d7 d8 d9 g9 h0 h2 hA h3 f2 c7 hD;have f3:=Em w (O11 c8 fl c9 d0 fm d1) (O12 cl nm pa pl pc r1 r2 lo st O ha hl hc ma ml mc c2 c3) (O21 none 0 0 none 0 0);obtain⟨F0,M0,Z0⟩:=Nz w (O11 c8 fl c9 d0 fm d1) (O12 cl nm pa pl pc r1 r2 lo st O ha hl hc ma ml mc c2 c3) (O21 none 0 0 none 0 0);go_in;go_wp2_with fail;refine(Ba h4 _ f3).mono ?_;rintro e w1 ⟨u,rfl,Q,a7⟩;obtain⟨I,J,K,L,N,vc⟩:=u;have f4:=QB f3 a7;have h5:=f4.size;have F1:=Bg (stay a7 F0) (O21 I J K L N vc);have M1:=Bg (stay a7 M0) (O21 I J K L N vc);have Z1:=Bg (stay a7 Z0) (O21 I J K L N vc);have Y1:=Be w1 (O21 I J K L N vc);have a6:=f4.alloc h5 (O21 I J K L N vc);have c4:=Q.below (QN (O21 I J K L N vc));have l4:=Sp (stay a7 Z0);clear a7 Q F0 M0 Z0;go_wp2
 go_loopw [9,10] (fun s9 j8 wr=>∃(p k:Nat) (o:Option Bf) (d:List Nat) (u:FrV),s9=.bool o.isSome/\j8=.i (p:Int)/\p<=200000/\c.length<=p+k/\Hid (d++Cd.starts c k p=Cd.places c)/\Hid (Gu mp l C q (Cd.starts c k p) o=A) /\
   wr.heap[w1.heap.size]?=some (O21 u.la u.ln u.lc u.sa u.sn u.sc)/\(∀x,o=some x->u.is x wr/\P x) /\
   Bl w wr/\wr.heap[w.heap.size]?=some (O11 c8 fl c9 d0 fm d1)/\wr.heap[w.heap.size+1]?=some (O12 cl nm pa pl pc r1 r2 lo st O ha hl hc ma ml mc c2 c3)/\wr.heap[w.heap.size+1+1]?=some (O21 none 0 0 none 0 0))
  (fun _ v _=>c.length-(intOf v).toNat)
 case atStart=>
  exact⟨0,c.length,some B,[],⟨I,J,K,L,N,vc⟩,rfl,rfl,Ck,Ck,HD,HA,Y1,fun x D=>by obtain rfl:=Option.some.inj D;exact⟨c4,g8⟩,a6,F1,M1,Z1⟩
 case round=>
  clear HA HD F1 M1 Z1 Y1 a6 c4 f4 h5 f3 h4 g8;obtain⟨p,k,o,d,u,rfl,rfl,l5,hk,HD,HA,Y,Q,hB,F,M,Z⟩:=hrel;obtain⟨I,J,K,L,N,vc⟩:=u;simp only at Y;have j9:=hB.size;by_cases k0:p<=q/\p<c.length
  ·have l6:(p:Int)<=(q:Int):=Ck;have f5:p<O.size:=Ck;have l7:(p:Int)<(O.size:Int):=Ck;obtain⟨j,rfl,hj,h6⟩:=Cd.starts_go (c:=c) (k:=k) (p:=p) k0.2 hk;have hd:=Ba HD;have t:=Ba HA;rw[h6]at t hd;have h7:p∈Cd.places c:=by rw[<- hd];simp
   have l8:=Cd.wd_bd (c.getD p 0);have f6:Hid ((d++[p])++Cd.starts c j (p+Cd.wd (c.getD p 0))=Cd.places c):=by unfold Hid;rw[<- hd];simp
   have h8:=fun b=>Ba j3 p b f5;have h9:=Ba j6 p f5;have k1:=Ba j7 p f5;have l9:IntKind.i64.wrap ((O[p].toNat:Nat):Int)=((O[p].toNat:Nat):Int):=Cx _ Ck (by have:=O[p].toNat_lt;omega);have f7:=fun b=>Bat (O[p].toNat:Int) b;rw[<- h9]at f7;have i0:=Ap mp l C c q j (p+Cd.wd (c.getD p 0));generalize Cd.wd (c.getD p 0)=a8 at *;rw[Gu,Pk Ck]at t;have f8:=Bc h8;have HG:=Bc f7;have k2:=Ba j4 p;have i1:=fun b h=>Ba j1 p b h;have a4:J0 mp l C p o=((mp p).or o).bind fun x=>(l p x).bind fun z=>if C p=true then some z else none:=rfl
   obtain⟨V,m1,m2,m3,m4,m5,m6,G,m8,m9,a0,a1⟩:=El M;simp at V m1 m2 m3 m4 m5 m6 G m8 m9 a0 a1;generalize mp p=d2 at *;have k3:=Bc i1;have HR:=Bc t;have d3:=Bc a4;have d4:=Bc i0;clear h8 f7 i1 t hd h6 HD HA h9 k1 a4 i0;go_wp2_with fail;refine(Ba k3 _ hB).mono ?_;rintro e w2 ⟨u2,rfl,c4,a2⟩;obtain⟨a9,b0,b1,b2,b3,b4⟩:=u2;have a6:=hB.trans (a2.mono j9);have i2:=a6.size;have F2:=Bg (stay a2 F) (O21 a9 b0 b1 b2 b3 b4);have M2:=Bg (stay a2 M) (O21 a9 b0 b1 b2 b3 b4);have Z2:=Bg (stay a2 Z) (O21 a9 b0 b1 b2 b3 b4);have X2:=stay a2 Y;have X3:=Bg X2 (O21 a9 b0 b1 b2 b3 b4);have i3:=a6.alloc i2 (O21 a9 b0 b1 b2 b3 b4);clear V m1 m2 m3 m4 m5 m6 G m8 m9 a0 a1;obtain⟨B,x1⟩:=cl2 X2;obtain⟨p0,p1⟩:=fr2 X2;have lX:=Sp X2;simp at B x1
   go_upto_if 37 with fail
   go_cut [9] from 18 to 64 (fun s9 wx=>∃u':FrV,s9=.bool (d2.or o).isSome/\wx.heap[w1.heap.size]?=some (O21 u'.la u'.ln u'.lc u'.sa u'.sn u'.sc)/\(∀x,d2.or o=some x->u'.is x wx/\P x) /\
    Bl w wx/\wx.heap[w.heap.size]?=some (O11 c8 fl c9 d0 fm d1)/\wx.heap[w.heap.size+1]?=some (O12 cl nm pa pl pc r1 r2 lo st O ha hl hc ma ml mc c2 c3)/\wx.heap[w.heap.size+1+1]?=some (O21 none 0 0 none 0 0))
   case first=>
    cases d2 with
    | none =>
     go_wp2
     go_meet
     case rel=>exact⟨⟨I,J,K,L,N,vc⟩,rfl,X3,fun x D=>⟨((Q x D).1.below a2).below (QN _),(Q x D).2⟩,i3,F2,M2,Z2⟩
    | some z =>
     have k4:=k2 z rfl;go_wp2
     go_meet
     case rel=>exact⟨⟨a9,b0,b1,b2,b3,b4⟩,rfl,Bg (Pu X2 _ _) _,fun x D=>by obtain rfl:=Option.some.inj D;exact⟨(c4.set2 X2 _ _).below (QN _),k4⟩,((a6.setCell Fr _).setCell Fr _).alloc Fr _,Bg ((Hx Ck).trans (stay a2 F)) _,Bg ((Hx Ck).trans (stay a2 M)) _,Bg ((Hx Ck).trans (stay a2 Z)) _⟩
   case rest=>
    obtain⟨u3,rfl,X4,d5,c5,F4,M4,Z4⟩:=hcut;obtain⟨f9,g0,g1,g2,g3,g4⟩:=u3;simp only at X4;have g5:=c5.size;clear F2 M2 Z2 X2 X3 i3 B x1 p0 p1 lX c4 Q a2 a6 i2 Y F M Z;have t:=Ba HR;have a4:=Ba d3;generalize d2.or o=o1 at *;obtain⟨V,m1,m2,m3,m4,m5,m6,G,m8,m9,a0,a1⟩:=El M4;simp at V m1 m2 m3 m4 m5 m6 G m8 m9 a0 a1;by_cases he:p=q
    ·rw[Th he]at t;have hz:=Ba d4 o1 Ck;have g6:Hid (Gu mp l C q (Cd.starts c j (p+a8)) o1=A):=by unfold Hid;rw[hz,t]
     have k5:((p:Int)==(q:Int))=true:=Fr;clear t hz a4 d3 HR d4 he;go_wp2_with fail;refine Qm (Ba f8 _) ?_;intro w5 g;have b5:=c5.trans (g.mono g5);clear V m1 m2 m3 m4 m5 m6 G m8 m9 a0 a1;go_wp2;go_roundw
     case rel=>exact⟨p+a8,j,o1,d++[p],⟨f9,g0,g1,g2,g3,g4⟩,rfl,rfl,Ck,Ck,f6,g6,stay g X4,fun x D=>⟨(d5 x D).1.below g,(d5 x D).2⟩,b5,stay g F4,stay g M4,stay g Z4⟩
     case measure=>simp[intOf];omega
    rw[Pk he]at t;have k5:((p:Int)==(q:Int))=false:=Fr;clear he;cases o1 with
    | none =>
     have g6:Hid (Gu mp l C q (Cd.starts c j (p+a8)) none=A):=by unfold Hid;rw[<- t,a4];rfl
     clear t a4 d3 HR d4;go_wp2_with fail;refine Qm (Ba f8 _) ?_;intro w5 g;have b5:=c5.trans (g.mono g5);clear V m1 m2 m3 m4 m5 m6 G m8 m9 a0 a1;go_wp2;go_roundw
     case rel=>exact⟨p+a8,j,none,d++[p],⟨f9,g0,g1,g2,g3,g4⟩,rfl,rfl,Ck,Ck,f6,g6,stay g X4,fun x D=>(by cases D),b5,stay g F4,stay g M4,stay g Z4⟩
     case measure=>simp[intOf];omega
    | some x =>
     obtain⟨k6,i4⟩:=d5 x rfl;have g7:=fun b h hv=>Ba j2 p ⟨f9,g0,g1,g2,g3,g4⟩ x b h h7 hv i4;have k7:=fun y=>Ba j5 p x y h7 i4;have i5:J0 mp l C p o=(l p x).bind fun z=>if C p=true then some z else none:=a4
     rw[i5]at t;simp only at g7;generalize l p x=RX at *;have i6:=Bc t;have k8:=Bc g7;clear t a4 d3 HR d4 i5 g7 d5;obtain⟨B,x1⟩:=cl2 X4;obtain⟨f0,f1⟩:=cl2 F4;simp at B x1 f0 f1;go_wp2_with fail;refine(Ba k8 _ c5 k6).mono ?_;rintro e w5 ⟨u5,rfl,i7,g⟩;obtain⟨b6,b7,b8,b9,c0,c1⟩:=u5;have b5:=c5.trans (g.mono g5);have k9:=b5.size;have F5:=stay g F4;have M5:=stay g M4;have Z5:=stay g Z4;have X5:=stay g X4;clear V m1 m2 m3 m4 m5 m6 G m8 m9 a0 a1 B x1 f0 f1 g F4 M4 Z4 X4;have G:=Bb M5 7;have lM:=Sp M5;simp at G;go_wp2_with fail;refine Qm (Ba HG _) ?_;intro w6 a5;have i8:=(b5.alloc k9 (O21 b6 b7 b8 b9 c0 c1)).trans (a5.mono Fr);have n0:=i8.size;have F6:=stay a5 (Bg F5 _);have M6:=stay a5 (Bg M5 _);have Z6:=stay a5 (Bg Z5 _);have X6:=stay a5 (Bg X5 _);have T6:=stay a5 (Be w5 (O21 b6 b7 b8 b9 c0 c1));have i9:∀y,RX=some y->FrV.is ⟨b6,b7,b8,b9,c0,c1⟩ y w6/\P y:=fun y hy=>⟨((i7 y hy).below (QN _)).below a5,k7 y hy⟩;obtain⟨t0,t1⟩:=cl2 T6;obtain⟨B,x1⟩:=cl2 X6;obtain⟨p0,p1⟩:=fr2 X6;have lx:=Sp X6;have n1:=Sp X5;simp at t0 t1 B x1;have M7:((w6.setCell (.a w1.heap.size 0) (.s b6 b7 b8)).setCell (.a w1.heap.size 1) (.s b9 c0 c1)).heap[w.heap.size+1]?=some (O12 cl nm pa pl pc r1 r2 lo st O ha hl hc ma ml mc c2 c3):=(Hx Ck).trans M6;have l0:=(i8.setCell (p:=.a w1.heap.size 0) Fr (.s b6 b7 b8)).setCell (p:=.a w1.heap.size 1) Fr (.s b9 c0 c1);clear G lM F5 M5 Z5 X5 a5 i7;obtain⟨V,m1,m2,m3,m4,m5,m6,G,m8,m9,a0,a1⟩:=El M7;simp at V m1 m2 m3 m4 m5 m6 G m8 m9 a0 a1;have l1:Hid (Gu mp l C q (Cd.starts c j (p+a8)) (if RX.isSome&&C p then RX else none)=A):=by
      unfold Hid;rw[<- Ba i6];cases RX<;>cases C p<;>rfl
     clear i6;generalize C p=gp at *;cases RX<;>cases gp
     all_goals
      go_wp2_with fail;refine Qb (Ba f8 _) l0 ?_;intro w8 c6 l2;clear V m1 m2 m3 m4 m5 m6 G m8 m9 a0 a1 t0 t1 B x1;go_wp2;go_roundw
      case rel=>exact⟨p+a8,j,_,d++[p],⟨b6,b7,b8,b9,c0,c1⟩,rfl,rfl,Ck,Ck,f6,l1,stay c6 (Pu X6 _ _),fun x D=>(by first|exact⟨((i9 x D).1.set2 X6 _ _).below c6,(i9 x D).2⟩ | cases D),l2,stay c6 ((Hx Ck).trans F6),stay c6 M7,stay c6 ((Hx Ck).trans Z6)⟩
      case measure=>simp[intOf];omega
  have t:=Ba HA;rw[Ap mp l C c q k p o Ck]at t;subst t;obtain⟨z0,z1⟩:=cl2 Z;obtain⟨q0,q1⟩:=fr2 Z;obtain⟨y0,y1⟩:=cl2 Y;have G:=Bb M 7;have lZ:=Sp Z;simp at z0 z1 y0 y1 G;clear HA HD;by_cases h1:p<=q;·have l3:(p:Int)<=(q:Int):=Ck;have n2:¬(p:Int)<(O.size:Int):=Ck;go_wp2;refine tb (.tuple #[.agg #[.s I J K,.s L N vc],.bool o.isSome]) (by simp[results,results175,go_sem,z0,z1]) ?_;exact⟨⟨I,J,K,L,N,vc⟩,rfl,fun y hy=>⟨(Q y hy).1.set2 Z _ _,(Q y hy).2⟩,(hB.setCell Fr _).setCell Fr _⟩
  have l3:¬(p:Int)<=(q:Int):=Ck;go_wp2;refine tb (.tuple #[.agg #[.s I J K,.s L N vc],.bool o.isSome]) (by simp[results,results175,go_sem,z0,z1]) ?_;exact⟨⟨I,J,K,L,N,vc⟩,rfl,fun y hy=>⟨(Q y hy).1.set2 Z _ _,(Q y hy).2⟩,(hB.setCell Fr _).setCell Fr _⟩
def La (T:TI)(m0:Option Bf)(x0:Bf)(ah:Nat->Option Bf)(lk:Nat->Bf->Int)(ps:List Nat):Int × Int :=
 if m0.isSome=true/\Cj T x0 (Cu m0)=false then (9,0) else Gd ah lk ps
theorem Bo8{w:World}{u b t:Nat}{c B e f h i j l:Int}{g m p:Option Addr}{O q s v z A:Nat}{C:ByteArray}{D F G I:Option Addr}{J K L N Q V Y Z:Nat}(hF:w.heap[u]?=some (O11 D J K F L N))(hM:w.heap[b]?=some (O12 c B g O q e f h i C m s v p z A j l)) (hY:w.heap[t]?=some (O21 G Q V I Y Z)):(w.cell? ⟨u,0,none⟩=some (.slice D J K)/\w.cell? ⟨u,1,none⟩=some (.slice F L N))/\(w.cell? ⟨t,0,none⟩=some (.slice G Q V)/\w.cell? ⟨t,1,none⟩=some (.slice I Y Z))/\w.cell? ⟨b,0,none⟩=some (.int .i64 c)/\w.cell? ⟨b,1,none⟩=some (.int .i64 B)/\w.cell? ⟨b,2,none⟩=some (.slice g O q)/\w.cell? ⟨b,3,none⟩=some (.int .i64 e)/\w.cell? ⟨b,4,none⟩=some (.int .i64 f)/\w.cell? ⟨b,5,none⟩=some (.int .i64 h)/\w.cell? ⟨b,6,none⟩=some (.int .i64 i)/\w.cell? ⟨b,7,none⟩=some (.string C)/\w.cell? ⟨b,8,none⟩=some (.slice m s v)/\w.cell? ⟨b,9,none⟩=some (.slice p z A)/\w.cell? ⟨b,10,none⟩=some (.int .i64 j)/\w.cell? ⟨b,11,none⟩=some (.int .i64 l):=by
 refine⟨⟨?_,?_⟩,⟨?_,?_⟩,Bf4 hM⟩
 ·rw[Bb hF];rfl
 ·rw[Bb hF];rfl
 ·rw[Bb hY];rfl
 rw[Bb hY];rfl
def Bcy(f:RFv)(T:TI)(m:RMV)(mp:Nat->Option Bf)(x0:Bf)(P:Bf->Prop)(V:Nat->Option Bf)(Z:Nat->Bf->Int)(w:TW)(hs:m.code.size<=100000)(hF:f.fitsAs T w) (c4:∀b,Bl w b->Calls prog 174 #[m.val] b fun e t=>∃u:FrV,e=.returned u.val/\u.is x0 t/\Bl b t) (d5:∀(q:Nat) b,Bl w b->Calls prog 172 #[m.val,.i (q:Int)] b fun e t=>∃u:FrV,e=.r (.tuple #[u.val,.bool (mp q).isSome])/\u.is (Cu (mp q)) t/\Bl b t) (c5:∀(q:Nat) b,Bl w b->q<=100000->Calls prog 175 #[f.val,m.val,.i (q:Int)] b fun e t=>∃u:FrV,e=.r (.tuple #[u.val,.bool (V q).isSome])/\(∀y,V q=some y->u.is y t/\P y)/\Bl b t) (c6:∀(q:Nat) (v:FrV) (x:Bf) b,Bl w b->q∈Cd.places (Ca m.code)->v.is x b->P x->Calls prog 176 #[f.val,m.val,.i (q:Int),v.val] b fun e t=>e=.r (.i (Z q x))/\Bl b t):Calls prog 119 #[f.val,m.val] w fun e b => e=.r (.tuple #[.i (La T (mp 0) x0 V Z (Cd.places (Ca m.code))).1,.i (La T (mp 0) x0 V Z (Cd.places (Ca m.code))).2])/\Bl w b:=by
 have c7:=fun (u u':FrV) (y y':Bf) b (h:Bl w b) hu g0=>Pv f T u u' y y' b (hF.below h) hu g0;have c8:=fun p b hp=>Lz m p b hp hs;have g1:=He m.code;generalize hR:La T (mp 0) x0 V Z (Cd.places (Ca m.code))=R;unfold La at hR;have hD:([]:List Nat)++Cd.starts (Ca m.code) (Ca m.code).length 0=Cd.places (Ca m.code):=rfl;have c9:∀b,Bl w b->Calls prog 172 #[m.val,.i 0] b fun e t=>∃u:FrV,e=.r (.tuple #[u.val,.bool (mp 0).isSome])/\u.is (Cu (mp 0)) t/\Bl b t:=fun b h=>d5 0 b h;generalize Ca m.code=c at *;obtain⟨b1,fl,b2,b3,fm,b4⟩:=f;obtain⟨cl,nm,pa,pl,pc,r1,r2,lo,st,a1,ha,hl,hc,ma,ml,mc,b5,b6⟩:=m;simp only[RMV.val,RFv.val,FrV.val]at hs c4 c9 c5 c6 c7 c8 g1 ⊢;have g2:=Bc c4;have g3:=Bc c9;have g4:=Bc c5;have g5:=Bc c6;have g6:=Bc c7;have g7:=Bc c8;have HD:=Bc hD;have d0:=Bc hR;clear c4 d5 c9 c5 c6 c7 c8 hD hF hR;have d6:=Bu w (O11 b1 fl b2 b3 fm b4) (O12 cl nm pa pl pc r1 r2 lo st a1 ha hl hc ma ml mc b5 b6);have F0:=Cb w (O11 b1 fl b2 b3 fm b4) (O12 cl nm pa pl pc r1 r2 lo st a1 ha hl hc ma ml mc b5 b6);have M0:=Bx w (O11 b1 fl b2 b3 fm b4) (O12 cl nm pa pl pc r1 r2 lo st a1 ha hl hc ma ml mc b5 b6);go_in;go_wp2_with fail;refine(Ba g3 _ d6).mono ?_;rintro e w1 ⟨u,rfl,hu,c0⟩;obtain⟨ua,un,uc,va,vn,vc⟩:=u;have d1:=QB d6 c0;have g8:=d1.size;have F1:=Bg (stay c0 F0) (O21 ua un uc va vn vc);have M1:=Bg (stay c0 M0) (O21 ua un uc va vn vc);have Y1:=Be w1 (O21 ua un uc va vn vc);have Q:=d1.alloc g8 (O21 ua un uc va vn vc);have a4:=hu.below (QN (O21 ua un uc va vn vc));clear c0 hu F0 M0;go_wp2
 go_region_held3 (fun b=>(b.C w.heap.size 0 (.s b1 fl b2)/\b.C w.heap.size 1 (.s b3 fm b4))/\(b.C w1.heap.size 0 (.s ua un uc)/\b.C w1.heap.size 1 (.s va vn vc))/\b.C (w.heap.size+1) 0 (.i cl)/\b.C (w.heap.size+1) 1 (.i nm)/\b.C (w.heap.size+1) 2 (.s pa pl pc)/\b.C (w.heap.size+1) 3 (.i r1)/\b.C (w.heap.size+1) 4 (.i r2)/\b.C (w.heap.size+1) 5 (.i lo)/\b.C (w.heap.size+1) 6 (.i st)/\b.C (w.heap.size+1) 7 (.string a1)/\b.C (w.heap.size+1) 8 (.s ha hl hc)/\b.C (w.heap.size+1) 9 (.s ma ml mc)/\b.C (w.heap.size+1) 10 (.i b5)/\b.C (w.heap.size+1) 11 (.i b6))
  (exact Bo8 (by repeat (first|exact F1|refine stay a2 ?_|refine stay a3 ?_)) (by repeat (first|exact M1|refine stay a2 ?_|refine stay a3 ?_)) (by repeat (first|exact Y1|refine stay a2 ?_|refine stay a3 ?_)))
  (first|(go_at_call 174;refine(Ba g2 _ Q.drew).mono ?_;rintro e w5 ⟨u5,rfl,d7,a2⟩;obtain⟨g9,h0,h1,h2,h3,h4⟩:=u5;have d2:=Q.drew.trans (a2.mono Fr);have d8:=(a4.below (Brm _ _).drew).below a2)|(go_at_call 173;refine(Ba g6 ⟨g9,h0,h1,h2,h3,h4⟩ ⟨ua,un,uc,va,vn,vc⟩ _ _ _ d2 d7 d8).mono ?_;rintro e w6 ⟨rfl,a3⟩))
 have c1:=QB d2 a3;have F6:=stay a3 (stay a2 (show _=_ from F1));have M6:=stay a3 (stay a2 (show _=_ from M1));clear a2 a3 a4 d8 d7 F1 M1 Y1 d2 Q d1;have g:=Ba d0;generalize Cj T x0 (Cu (mp 0))=FB at *;generalize (mp 0).isSome=SB at *;have h5:=c1.size
 go_upto_region 3 with fail
 go_cut [27] from 18 (fun h6 wx=>h6=.bool (SB && !FB)/\wx=w6)
 case first=>
  cases SB<;>cases FB
  all_goals
   go_wp2
   go_meet
   case rel=>exact⟨rfl,rfl⟩
 case rest=>
  obtain⟨rfl,rfl⟩:=hcut;have c2:(SB && !FB)=true<->(SB=true/\FB=false):=by cases SB<;>cases FB<;>simp
  generalize (SB && !FB)=BB at *;cases BB with
  | true =>
   rw[Th (c2.1 rfl)]at g;have HE:=Bc g;clear g d0 c2;go_wp2;go_ret2;exact⟨by rw[<- Ba HE];rfl,c1⟩
  | false =>
   rw[Pk (fun h=>by have:=c2.2 h;cases this)]at g;have HA:Hid (Gd V Z (Cd.starts c c.length 0)=R):=by unfold Hid;rw[<- g];rfl
   clear g d0 c2;go_wp2
   go_loopw [9] (fun s9 wr=>∃(p k:Nat) (d:List Nat),s9=.i (p:Int)/\p<=200000/\c.length<=p+k/\Hid (d++Cd.starts c k p=Cd.places c)/\Hid (Gd V Z (Cd.starts c k p)=R) /\
     Bl w wr/\wr.heap[w.heap.size]?=some (O11 b1 fl b2 b3 fm b4)/\wr.heap[w.heap.size+1]?=some (O12 cl nm pa pl pc r1 r2 lo st a1 ha hl hc ma ml mc b5 b6))
    (fun v _=>c.length-(intOf v).toNat)
   case atStart=>exact⟨0,c.length,[],rfl,Ck,Ck,HD,HA,c1,F6,M6⟩
   case round=>
    clear HA HD F6 M6 c1 h5;obtain⟨p,k,d,rfl,i2,hk,HD,HA,hB,F,M⟩:=hrel;have d9:=hB.size;by_cases h7:p<c.length
    ·have h8:p<a1.size:=Ck;have i3:(p:Int)<(a1.size:Int):=Ck;obtain⟨j,rfl,hj,f2⟩:=Cd.starts_go (c:=c) (k:=k) (p:=p) h7 hk;have hd:=Ba HD;have g:=Ba HA;rw[f2]at g hd;have h9:p∈Cd.places c:=by rw[<- hd];simp
     have i4:=Cd.wd_bd (c.getD p 0);have f3:Hid ((d++[p])++Cd.starts c j (p+Cd.wd (c.getD p 0))=Cd.places c):=by unfold Hid;rw[<- hd];simp
     have f4:=fun b=>Ba g7 p b h8;generalize Cd.wd (c.getD p 0)=c3 at *;rw[Gd]at g;have f5:=Bc f4;have f6:=fun b h=>Ba g4 p b h Ck;generalize V p=AP at *;have f7:=Bc f6;clear f4 f6 f2 hd HD HA;obtain⟨z,A,B,D,G,I,J,l,K,L,N,O⟩:=El M;simp at z A B D G I J l K L N O;obtain⟨f0,f1⟩:=cl2 F;simp at f0 f1;cases AP with
     | none =>
      have d3:Hid (Gd V Z (Cd.starts c j (p+c3))=R):=g;clear g;go_wp2_with fail;refine(Ba f7 _ hB).mono ?_;rintro e w2 ⟨u2,rfl,-,a0⟩;obtain⟨a5,a6,a7,a8,a9,b0⟩:=u2;have Q:=hB.trans (a0.mono d9);have b7:=Q.size;have F2:=stay a0 F;have M2:=stay a0 M;clear a0 z A B D G I J l K L N O f0 f1;obtain⟨z,A,B,D,G,I,J,l,K,L,N,O⟩:=El M2;simp at z A B D G I J l K L N O;have lM:=Sp M2;go_wp2_with fail;refine Qm (Ba f5 _) ?_;intro w3 Y;have b8:=(Q.alloc b7 (O21 a5 a6 a7 a8 a9 b0)).trans (Y.mono Fr);clear z A B D G I J l K L N O;go_wp2;go_roundw
      case rel=>exact⟨p+c3,j,d++[p],rfl,Ck,Ck,f3,d3,b8,stay Y (Bg F2 _),stay Y (Bg M2 _)⟩
      case measure=>simp[intOf];omega
     | some x =>
      simp only at g;go_wp2_with fail;refine(Ba f7 _ hB).mono ?_;rintro e w2 ⟨u2,rfl,a4,a0⟩;obtain⟨a4,i0⟩:=a4 x rfl;obtain⟨a5,a6,a7,a8,a9,b0⟩:=u2;have Q:=hB.trans (a0.mono d9);have b7:=Q.size;have F2:=stay a0 F;have M2:=stay a0 M;have d4:=Ba g5 p ⟨a5,a6,a7,a8,a9,b0⟩ x _ (Q.alloc b7 (O21 a5 a6 a7 a8 a9 b0)) h9 (a4.below (QN _)) i0;simp only at d4;generalize Z p x=LV at *;have f8:=Bc d4;clear a0 z A B D G I J l K L N O f0 f1 d4;obtain⟨z,A,B,D,G,I,J,l,K,L,N,O⟩:=El M2;simp at z A B D G I J l K L N O;obtain⟨f0,f1⟩:=cl2 F2;have lF:=Sp F2;have lM:=Sp M2;simp at f0 f1;by_cases b9:LV=0
      ·rw[Pk (by simpa using b9)]at g;have d3:Hid (Gd V Z (Cd.starts c j (p+c3))=R):=g;subst b9;clear g;go_wp2_with fail;refine Qm (Ba f8) ?_;intro w3 Y;have b8:=(Q.alloc b7 (O21 a5 a6 a7 a8 a9 b0)).trans (Y.mono Fr);have F3:=stay Y (Bg F2 _);have M3:=stay Y (Bg M2 _);clear Y z A B D G I J l K L N O f0 f1;obtain⟨z,A,B,D,G,I,J,l,K,L,N,O⟩:=El M3;simp at z A B D G I J l K L N O;go_wp2_with fail;refine Qb (Ba f5 _) b8 ?_;intro w4 f9 i1;clear z A B D G I J l K L N O;go_wp2;go_roundw
       case rel=>exact⟨p+c3,j,d++[p],rfl,Ck,Ck,f3,d3,i1,stay f9 F3,stay f9 M3⟩
       case measure=>simp[intOf];omega
      rw[Th b9]at g;have HE:=Bc g;have i5:(LV != 0)=true:=by simpa using b9
      clear g b9;go_wp2_with fail;refine Qm (Ba f8) ?_;intro w3 Y;have b8:=(Q.alloc b7 (O21 a5 a6 a7 a8 a9 b0)).trans (Y.mono Fr);go_wp2;go_ret2;exact⟨by rw[<- Ba HE];rfl,b8⟩
    have g:=Ba HA;rw[Cd.starts_end Ck,Gd]at g;have HE:=Bc g;have kb:¬(p:Int)<(a1.size:Int):=Ck;have l:=Bb M 7;simp at l;clear g HA HD;go_wp2;go_ret2;exact⟨by rw[<- Ba HE];rfl,hB⟩
variable {aa:Option Addr}{an ac:Nat}
def Lx (w:TW)(b:Nat)(v:TX)(l:List (Value × List (Int × Int))):Prop:=w.ownsRow b 105 1 v l.length (l.map Prod.fst)/\∀p∈l,TyR w p.1 p.2
def Lx.below{w s:TW}{u:Nat}{l:TX}{c:List (Value×List (Int×Int))}(h:Lx w u l c)(f:Bl w s):Lx s u l c :=
 ⟨Dc h.1 (Kp.of_below (e:=none) f) Fm,fun p g=>(h.2 p g).below f⟩
theorem Lx.at{w:World}{u:Nat}{a:Option Addr}{n t:Nat}{l:List (Value×List (Int×Int))}(h:Lx w u (.slice a n t) l){k:Nat}(i:k<l.length):∃g,a=some ⟨g,0,none⟩/\g<w.heap.size/\∃e f,w.cell? ⟨g,k,none⟩=some (.slice e l[k].2.length f)/\TyR w (.slice e l[k].2.length f) l[k].2:=by
 obtain⟨g,p,q,_,s⟩:=Cf h.1 Ck;have j:=h.2 l[k] (Brn i);obtain⟨e,f,m⟩:=j.shape;rw[m]at j;refine⟨g,p,q,e,f,?_,j⟩;rw[s k (by simpa using i),Bsf,Brl i];exact congrArg some m
def Ba1(l:List (Value×List (Int×Int)))(z:Nat)(ya:TA)(yc:Nat)(n:Int)(w:TW)(G:l.length<=1000)(I:0<=n/\n<=100000)(A:∀p∈l,p.2.length<=1000)(hF:Lx w z (.s ya l.length yc) l):Calls prog 300 #[.agg #[.s aa an ac,.s ya l.length yc],.i n] w fun e B => e=.r (.tuple #[.i (Dw n (l.map Prod.snd) 0 0).1,.i (Dw n (l.map Prod.snd) 0 0).2])/\Bl w B:=by
 generalize b:Dw n (l.map Prod.snd) 0 0=r;have c:Hid (Dw n ((l.map Prod.snd).drop 0) ((0:Nat):Int) ((0:Nat):Int)=r):=b;clear b;have h:Bl w (w.alloc (O2 aa an ac ya l.length yc)):=QN _;go_in;go_wp2
 go_loopw [6,12] (fun f v wr=>∃(k s:Nat),k<=l.length/\s<=1000*k/\f=.i (s:Int)/\v=.i (k:Int)/\Hid (Dw n ((l.map Prod.snd).drop k) (k:Int) (s:Int)=r)/\wr=w.alloc (O2 aa an ac ya l.length yc))
  (fun _ v _=>l.length-(intOf v).toNat)
 case atStart=>exact⟨0,0,Ck,Ck,rfl,rfl,c,rfl⟩
 case round=>
  clear c;obtain⟨k,s,J,K,rfl,rfl,c,rfl⟩:=hrel;by_cases j:k<l.length
  ·obtain⟨g,rfl,L,N,O,Q,-⟩:=(hF.below h).at j;have t:(l.map Prod.snd).drop k=l[k].2::(l.map Prod.snd).drop (k+1):=by rw[Brj (by simpa using j)];simp
   have b:=Ba c;have V:=A l[k] (Brn j);rw[t,Dw]at b;generalize l[k].2=own at *;have C:(k:Int)<(l.length:Int):=Ck;clear c t;by_cases D:(s:Int)<=n
   ·by_cases F:n-(s:Int)<(own.length:Int);·rw[Th ⟨D,F⟩]at b;have m:=Bc b;clear b;go_wp2;go_ret2;exact⟨by rw[<- Ba m];rfl,h⟩
    rw[Pk Ck]at b;have q:Hid (Dw n ((l.map Prod.snd).drop (k+1)) ((k+1:Nat):Int) ((s+own.length:Nat):Int)=r):=by unfold Hid;rw[<- b];push_cast;rfl
    clear b;go_wp2;go_roundw
    case rel=>exact⟨k+1,s+own.length,Ck,Ck,Mg,Mg,q,trivial⟩
    case measure=>simp[intOf];omega
   rw[Pk Ck]at b;have q:Hid (Dw n ((l.map Prod.snd).drop (k+1)) ((k+1:Nat):Int) ((s+own.length:Nat):Int)=r):=by unfold Hid;rw[<- b];push_cast;rfl
   clear b;go_wp2;go_roundw
   case rel=>exact⟨k+1,s+own.length,Ck,Ck,Mg,Mg,q,trivial⟩
   case measure=>simp[intOf];omega
  have b:=Ba c;rw[Brq Fr,Dw]at b;have m:=Bc b;have C:¬(k:Int)<(l.length:Int):=Ck;clear b c;go_wp2;go_ret2;exact⟨by rw[<- Ba m];rfl,h⟩
def Bfy(l:List (Value×List (Int×Int)))(t:Nat)(ya:TA)(yc:Nat)(c:Int)(w:TW)(z:l.length<=1000)(hF:Lx w t (.s ya l.length yc) l):Calls prog 301 #[.agg #[.s aa an ac,.s ya l.length yc],.i c] w fun e j => ∃b f,e=.r (.s b (Ln (l.map Prod.snd) c).length f)/\TyR j (.s b (Ln (l.map Prod.snd) c).length f) (Ln (l.map Prod.snd) c)/\Bl w j:=by
 have h:Bl w (w.alloc (O2 aa an ac ya l.length yc)):=QN _;unfold Ln;by_cases m:c<0;·rw[Th m];go_in;go_wp2;go_ret;exact⟨none,0,rfl,TyR.nil _,h⟩
 rw[Pk m];by_cases A:(l.length:Int)<=c
 ·have e:(l.map Prod.snd).getD c.toNat []=[]:=by rw[Vm,Bs3 Fr];rfl
  rw[e];go_in;go_wp2;go_ret;exact⟨none,0,rfl,TyR.nil _,h⟩
 obtain⟨q,rfl⟩:=Brp (show 0<=c by omega);have p:q<l.length:=Ck;obtain⟨g,rfl,B,b,f,C,v⟩:=(hF.below h).at p;have e:(l.map Prod.snd).getD ((q:Nat):Int).toNat []=l[q].2:=by simp[Vm,p]
 rw[e];generalize l[q].2=own at *;have D:(q:Int)<(l.length:Int):=Ck;clear e;go_in;go_wp2;go_ret;exact⟨b,f,rfl,v,h⟩
def Bbn(l:List (Value×List (Int×Int)))(L:Nat)(ya:TA)(yc:Nat)(n:Int)(w:TW)(V:l.length<=1000)(hn:0<=n/\n<=100000)(hf:∀p∈l,p.2.length<=1000)(hF:Lx w L (.s ya l.length yc) l):Calls prog 292 #[.agg #[.s aa an ac,.s ya l.length yc],.i n] w fun e v => e=.r (.tuple #[.i (J5 (l.map Prod.snd) n).1,.agg #[.i (J5 (l.map Prod.snd) n).2.1,.i (J5 (l.map Prod.snd) n).2.2]])/\Bl w v:=by
 have N:=fun v (h:Bl w v)=>Ba1 (aa:=aa) (an:=an) (ac:=ac) l L ya yc n v V hn hf (hF.below h);have B:=fun c v (h:Bl w v)=>Bfy (aa:=aa) (an:=an) (ac:=ac) l L ya yc c v V (hF.below h);unfold J5;generalize Dw n (l.map Prod.snd) 0 0=o at *;obtain⟨F,C⟩:=o;have B:=B F;simp only at N B ⊢;generalize Ln (l.map Prod.snd) F=own at *;have HO:=Bc N;have HW:=Bc B;clear N B hF;have Y:=Bu w (O2 aa an ac ya l.length yc) (O7 0 0);have Z:=Cb w (O2 aa an ac ya l.length yc) (O7 0 0);have R0:=Bx w (O2 aa an ac ya l.length yc) (O7 0 0);generalize f:(if C<0 then ((-1:Int),((0:Int),(0:Int))) else if (own.length:Int)<=C then (-1,(0,0)) else (F,own.getD C.toNat (0,0)))=A
 go_in;go_wp2_with fail;refine Qb (Ba HO _ Y) Y ?_;intro w1 O G;have I:=stay O Z;have z:=stay O R0;obtain⟨J,K⟩:=cl2 I;simp at J K;clear O Z R0;go_wp2_with fail;refine(Ba HW _ G).mono ?_;rintro e w2 ⟨xa,xc,rfl,ht,b⟩;by_cases Q:C<0;·rw[Th Q]at f;subst f;have D:=QB G b;have j:=stay b z;obtain⟨m,t⟩:=cl2 j;obtain⟨q0,q1⟩:=fr2 j;simp at m t;clear b I z J K;go_wp2;refine tb (.tuple #[.i (-1),.agg #[.i 0,.i 0]]) (by simp[results,Bwk,go_sem,m,t]) ?_;exact⟨rfl,by repeat (first|refine Bry ?_ Hd _|exact D)⟩
 rw[Pk Q]at f;obtain⟨q,rfl⟩:=Brp (show 0<=C by omega);by_cases h2:(own.length:Int)<=(q:Int);·rw[Th h2]at f;subst f;have D:=QB G b;have j:=stay b z;obtain⟨m,t⟩:=cl2 j;obtain⟨q0,q1⟩:=fr2 j;simp at m t;clear b I z J K;go_wp2;refine tb (.tuple #[.i (-1),.agg #[.i 0,.i 0]]) (by simp[results,Bwk,go_sem,m,t]) ?_;exact⟨rfl,by repeat (first|refine Bry ?_ Hd _|exact D)⟩
 rw[Pk h2]at f;have hq:q<own.length:=Ck;have e:own.getD ((q:Nat):Int).toNat (0,0)=own[q]:=by simp[Vm,hq]
 rw[e]at f;subst f;have kb:(q:Int)<(own.length:Int):=Ck;clear e Q;obtain⟨g,o,rfl,hg,a0⟩:=ht.at Ck;obtain⟨y0,y1⟩:=a0 q hq;have D:=QB G b;have j:=stay b z;obtain⟨m,t⟩:=cl2 j;obtain⟨q0,q1⟩:=fr2 j;simp at m t;clear b I z J K a0;go_wp2
 go_region
 all_goals
  go_wp2;refine tb (.tuple #[.i F,.agg #[.i own[q].1,.i own[q].2]]) (by simp[results,Bwk,go_sem,m,t]) ?_;exact⟨rfl,by repeat (first|refine Bud ?_|refine Bry ?_ Hd _|exact D)⟩
def Mm(T:TI)(b:List (List (Int×Int)))(c:Int)(e:∀p∈b,p.length<=1000):∀d:Nat,(Ek T b c d).length<=1000*d
 | 0=>by simp[Ek]
 | d+1=>by
  rw[Ek,Ws];have f:=Mm T b c e d;have:(b.getD d []).length<=1000:=by
   rw[Vm];rcases h:b[d]? with _|x
   ·simp
   simp;exact e x (Bs6 h)
  split
  ·omega
  rw[Bs2];omega
def Ti(T:TI)(t C:Nat)(l:List (Value×List (Int×Int)))(bb:Nat)(ya:TA)(yc:Nat)(c:Int)(w:TW)(hl:l.length<=14)(a3:T.length<=1000)(Y:∀p∈l,p.2.length<=1000)(hT:Dy w t T)(hF:Lx w bb (.s ya l.length yc) l):Calls prog 279 #[.agg #[.s (.p t) T.length C,.s ya l.length yc],.i c] w fun e Z => ∃F G,e=.r (.s F (Dk T (l.map Prod.snd) c).length G)/\Cq Z w.heap.size (.s F (Dk T (l.map Prod.snd) c).length G) (Dk T (l.map Prod.snd) c)/\Bl w Z:=by
 have a4:∀d,(Ek T (l.map Prod.snd) c d).length<=1000*d:=Mm T (l.map Prod.snd) c (fun p hp=>by obtain⟨q,hq,rfl⟩:=List.mem_map.1 hp;exact Y q hq);have HN:∀k,Ek T (l.map Prod.snd) c (k+1)=Ek T (l.map Prod.snd) c k++(if Tr.within T c (k:Int)=true then (l.map Prod.snd).getD k [] else []):=fun k=>rfl
 have H0:Ek T (l.map Prod.snd) c 0=[]:=rfl;have HE:Hid (Dk T (l.map Prod.snd) c=Ek T (l.map Prod.snd) c l.length):=by unfold Hid Dk;rw[Br1]
 rw[Ba HE];generalize Ek T (l.map Prod.snd) c=m at *;clear HE;have a0:Bl w (w.alloc (O2 (.p t) T.length C ya l.length yc)):=QN _;have T0:=Be w (O2 (.p t) T.length C ya l.length yc);go_in;go_wp2
 go_loopw [5,11] (fun u v wr=>∃k:Nat,k<=l.length/\v=.i (k:Int)/\wr.ownsRow w.heap.size 31 2 u (m k).length (Bp (m k))/\Bl w wr /\
   wr.heap[w.heap.size]?=some (O2 (.p t) T.length C ya l.length yc))
  (fun _ v _=>l.length-(intOf v).toNat)
 case atStart=>exact⟨0,Ck,rfl,by rw[H0];exact Brw _ _ _ _,a0,T0⟩
 case round=>
  clear a0 T0;obtain⟨k,hk,rfl,D,z,K⟩:=hrel;have a1:=z.size;obtain⟨ua,uc,rfl⟩:=Bh D;by_cases L:k<l.length
  ·have a5:=hF.below z;obtain⟨g,rfl,b0,F,G,y0,ht⟩:=a5.at L;have b1:=Y l[k] (Brn L);have h:=HN k;have e:(l.map Prod.snd).getD k []=l[k].2:=by simp[Vm,L]
   rw[e]at h;generalize l[k].2=own at *;have b2:=a4 k;have kb:(k:Int)<(l.length:Int):=Ck;obtain⟨t0,t1⟩:=cl2 K;simp at t0 t1;have A:=Pb (ya:=some ⟨g,0,none⟩) (yn:=l.length) (yc:=yc) T t C c (k:Int) wr a3 (hT.below z);cases I:Tr.within T c (k:Int) with
   | true =>
    rw[I]at A h;rw[Th rfl]at h;have N:=Bc A;have O:=Bc h;clear A h I e;go_wp2_with fail;refine Qm (Ba N) ?_;intro w1 f;have J:=z.trans (f.mono a1);have b3:=J.size;have Q:=stay f K;have B:=Dc D (Kp.of_below (e:=none) f) Fm;have a6:=ht.below f;clear f D ht;go_wp2_with (at_builtin;refine Jo rfl _ _ rfl w.heap.size _ (m k) own F own.length G rfl B rfl a6 Ck Ck ?_)
    intro v' w2 a2 V;have a7:=J.grown V Ck (fun j hj=>(B.lt j hj).1);have a8:=Kp.of_grown (b:=0) V B _ _ _ (Bsb _) Q Fm;have a9:w2.ownsRow w.heap.size 31 2 v' (m (k+1)).length (Bp (m (k+1))):=by rw[Ba O,Ws];exact a2
    clear V B a2;go_wp2;go_roundw
    case rel=>exact⟨k+1,Ck,Mg,a9,a7,a8⟩
    case measure=>simp[intOf];omega
   | false =>
    rw[I]at A h;rw[Pk Hd,Btg]at h;have N:=Bc A;have O:=Bc h;clear A h I e;go_wp2_with fail;refine Qm (Ba N) ?_;intro w1 f;have J:=z.trans (f.mono a1);have Q:=stay f K;have B:w1.ownsRow w.heap.size 31 2 (.s ua (m k).length uc) (m (k+1)).length (Bp (m (k+1))):=by rw[Ba O];exact Dc D (Kp.of_below (e:=none) f) Fm
    clear f;go_wp2;go_roundw
    case rel=>exact⟨k+1,Ck,Mg,B,J,Q⟩
    case measure=>simp[intOf];omega
  obtain rfl:k=l.length:=Ck;have kb:¬(l.length:Int)<(l.length:Int):=Ck;go_wp2;go_ret;exact⟨ua,uc,rfl,D,z⟩
structure BnC where
 tg:Nat
 tc:Nat
 ya:Option Addr
 yn:Nat
 yc:Nat
 hi:Int
 T:List Int
abbrev FrV.lv(v:FrV):Value:=.slice v.la v.ln v.lc
abbrev FrV.sv(v:FrV):Value:=.slice v.sa v.sn v.sc
def FrV.free(v:FrV)(k j:Nat):Prop:=j≠k/\v.lv.ownBlock≠some j/\v.sv.ownBlock≠some j
structure Ea(w:World)(B k:Nat)(c:BnC)(v:FrV)(b:Dv):Prop where
 blk:w.heap[k]?=some (O22 (some ⟨c.tg,0,none⟩) c.T.length c.tc c.ya c.yn c.yc v.la v.ln v.lc v.sa v.sn v.sc c.hi b.br)
 lo:Cq w B v.lv b.lo
 st:Cq w B v.sv b.st
 nk:v.lv.ownBlock≠some k/\v.sv.ownBlock≠some k
 ns:∀j,v.lv.ownBlock=some j->v.sv.ownBlock≠some j
 hB:B<=k
 tr:Dy w c.tg c.T
 tB:c.tg<B
 tl:c.T.length<=1000
 ll:b.lo.length<=1000
 sl:b.st.length<=5000
structure Bn(k:Nat)(w:World)(v:FrV)(w':World)(v':FrV):Prop where
 bel:Below 0 w w'
 blk:∀j,j<w.heap.size->v.free k j->w'.heap[j]?=w.heap[j]?/\v'.free k j
def Bn.refl(k:Nat)(w:TW)(v:FrV):Bn k w v w v:=⟨Brm _ _,fun _ _ h=>⟨rfl,h⟩⟩
def Bn.trans{k:Nat}{a s c:TW}{u v x:FrV}(h:Bn k a u s v)(g:Bn k s v c x):Bn k a u c x :=
 ⟨h.bel.trans g.bel,fun j i l=>by
  obtain⟨e,f⟩:=h.blk j i l;obtain⟨m,p⟩:=g.blk j (Brs i h.bel.size) f;exact⟨m.trans e,p⟩⟩
def Bn.of_below{k:Nat}{a s:TW}(v:FrV)(h:Bl a s):Bn k a v s v:=⟨⟨h.os,h.tape,h.output,h.size,fun _ c=>absurd c (Nat.not_lt_zero _)⟩,fun j c e=>⟨h.block j c,e⟩⟩
def Bn.stay{k b:Nat}{w s:TW}{v e:FrV}{o:Obj}(h:Bn k w v s e)(f:v.free k b)(c:w.heap[b]?=some o):s.heap[b]?=some o:=(h.blk b (Sp c) f).1.trans c
def Bn.free{k b:Nat}{w s:TW}{v c:FrV}(h:Bn k w v s c)(e:v.free k b)(f:b<w.heap.size):c.free k b:=(h.blk b f e).2
def Js{u b n:Nat}{j:TypeId}{l:TX}{e:TV}{w s:TW}(h:w.ownsRow u j b l n e)(m:∀f,l.ownBlock=some f->s.heap[f]?=w.heap[f]?):s.ownsRow u j b l n e:=by
 obtain⟨i,p|⟨g,q,z,a,c,d,r⟩⟩:=h
 ·exact⟨i,.inl p⟩
 exact⟨i,.inr ⟨g,q,z,a,c,by rw[m g (by rw[a];rfl)];exact d,r⟩⟩
def Ea.k_lt{w:TW}{u k:Nat}{c:BnC}{v:FrV}{b:Dv}(h:Ea w u k c v b):k<w.heap.size:=Sp h.blk
def Ea.low{w:TW}{u k t:Nat}{c:BnC}{v:FrV}{b:Dv}(h:Ea w u k c v b)(f:t<u):v.free k t :=
 ⟨by have:=h.hB;omega,fun e=>by have:=(h.lo.lt t e).1;omega,fun e=>by have:=(h.st.lt t e).1;omega⟩
def Ea.new{w:TW}{u k t:Nat}{c:BnC}{v:FrV}{b:Dv}(h:Ea w u k c v b)(f:w.heap.size<=t):v.free k t :=
 ⟨by have:=h.k_lt;omega,fun e=>by have:=(h.lo.lt t e).2;omega,fun e=>by have:=(h.st.lt t e).2;omega⟩
def Ea.B_le{w:TW}{u k:Nat}{c:BnC}{v:FrV}{b:Dv}(h:Ea w u k c v b):u<=w.heap.size:=Bsx (Bvt h.hB h.k_lt)
def Bn.low{w s:TW}{u k:Nat}{c:BnC}{v g:FrV}{b:Dv}(h:Bn k w v s g)(e:Ea w u k c v b):Below u w s :=
 ⟨h.bel.os,h.bel.tape,h.bel.output,h.bel.size,fun j f=>(h.blk j (Brs f e.B_le) (e.low f)).1⟩
def Ea.below{w s:TW}{u k:Nat}{c:BnC}{v:FrV}{b:Dv}(h:Ea w u k c v b)(e:Bl w s):Ea s u k c v b :=
 ⟨stay e h.blk,Js h.lo (fun j f=>e.block j (h.lo.lt j f).2),Js h.st (fun j f=>e.block j (h.st.lt j f).2),h.nk,h.ns,h.hB,h.tr.below e,h.tB,h.tl,h.ll,h.sl⟩
def Ea.alloc{w:TW}{u k:Nat}{c:BnC}{v:FrV}{b:Dv}(h:Ea w u k c v b)(o:Obj):Ea (w.alloc o) u k c v b:=h.below (QN o)
def Ea.drew{w:TW}{u k:Nat}{c:BnC}{v:FrV}{b:Dv}(h:Ea w u k c v b):Ea w.drew u k c v b:=h.below (Brm _ _).drew
def Bn.alloc{k:Nat}{w s:TW}{v b:FrV}(h:Bn k w v s b)(o:Obj):Bn k w v (s.alloc o) b:=h.trans (Bn.of_below b (QN o))
def Bn.drew{k:Nat}{w s:TW}{v b:FrV}(h:Bn k w v s b):Bn k w v s.drew b:=h.trans (Bn.of_below b (Brm _ _).drew)
def Mv{w s:TW}{u b:Nat}{z:TI}(h:Dy w u z)(e:u<b)(c:Below b w s):Dy s u z :=
 ⟨Brs h.1 c.size,fun i f=>by rw[c.cell (p:=.a u i) e];exact h.2 i f⟩
def Ea.setS{w:TW}{u k:Nat}{c:BnC}{v:FrV}{b:Dv}(h:Ea w u k c v b){sa:TA}{sn sc:Nat}{q:TP}(i:Cq w u (.s sa sn sc) q)(l:q.length<=5000) (g:(Value.slice sa sn sc).ownBlock≠some k)(m:∀j,v.lv.ownBlock=some j->(Value.slice sa sn sc).ownBlock≠some j):Ea (w.setCell (.a k 3) (.s sa sn sc)) u k c ⟨v.la,v.ln,v.lc,sa,sn,sc⟩ ⟨b.lo,q,b.br⟩ :=
 ⟨by rw[Bt h.blk];rfl,Js h.lo (fun j f=>Dg (fun e=>h.nk.1 (e▸f))),Js i (fun j f=>Dg (fun e=>g (e▸f))),⟨h.nk.1,g⟩,m,h.hB,
  Mv h.tr h.tB ((Brm u w).setCell (by simpa using h.hB) _),h.tB,h.tl,h.ll,l⟩
def Ea.brk{w:TW}{u k:Nat}{c:BnC}{v:FrV}{b:Dv}(h:Ea w u k c v b):Ea (w.setCell (.a k 5) (.bool true)) u k c v ⟨b.lo,b.st,true⟩ :=
 ⟨by rw[Bt h.blk];rfl,Js h.lo (fun j f=>Dg (fun e=>h.nk.1 (e▸f))),Js h.st (fun j f=>Dg (fun e=>h.nk.2 (e▸f))),h.nk,h.ns,h.hB,
  Mv h.tr h.tB ((Brm u w).setCell (by simpa using h.hB) _),h.tB,h.tl,h.ll,h.sl⟩
def Bn.setK{k i:Nat}{w s:TW}{v c v2:FrV}(h:Bn k w v s c)(u:TX)(e:v2.lv.ownBlock=c.lv.ownBlock)(f:v2.sv.ownBlock=c.sv.ownBlock):Bn k w v (s.setCell (.a k i) u) v2 :=
 h.trans ⟨(Brm 0 s).setCell Hd u,fun j _ b=>⟨Dg b.1,b.1,by rw[e];exact b.2.1,by rw[f];exact b.2.2⟩⟩
def Bn.brk{k:Nat}{w s:TW}{v b:FrV}(h:Bn k w v s b):Bn k w v (s.setCell (.a k 5) (.bool true)) b:=h.setK _ rfl rfl
def Blx{w:TW}{u n t:Nat}{a:TA}{q:TP}(h:Cq w u (.s a n t) q){O:Nat}(z:O<=q.length):Cq w u (.s a O t) (q.take O):=by
 have c:(q.take O).length=O:=Fr;obtain⟨A,⟨b,C⟩|⟨g,D,e,b,f,i,F,j,p,v⟩⟩:=h
 ·simp only[Value.slice.injEq]at b;obtain⟨rfl,rfl,rfl⟩:=b;have:O=0:=Ck;subst this;exact⟨by simp[Bp],.inl ⟨rfl,Hd⟩⟩
 simp only[Value.slice.injEq]at b;obtain⟨rfl,rfl,rfl⟩:=b;refine⟨by rw[Jm],.inr ⟨g,t,e,by rw[c],f,i,Ck,j,p,?_⟩⟩;rw[Ue,c,<- v,Btw]
 congr 1;omega
def Ea.setF{w:TW}{u k t O:Nat}{c:BnC}{v:FrV}{b:Dv}(h:Ea w u k c v b)(g:v.free k t)(m:u<=t)(f:TX):Ea (w.setCell (.a t O) f) u k c v b :=
 ⟨(Dg (Btj g.1)).trans h.blk,Js h.lo (fun x l=>Dg (fun e=>g.2.1 (e▸l))),Js h.st (fun x l=>Dg (fun e=>g.2.2 (e▸l))),h.nk,h.ns,h.hB,
  Mv h.tr h.tB ((Brm u w).setCell (by simpa using m) _),h.tB,h.tl,h.ll,h.sl⟩
def Bn.setF{k b t:Nat}{w s:TW}{v c:FrV}(h:Bn k w v s c)(m:w.heap.size<=b)(u:TX):Bn k w v (s.setCell (.a b t) u) c :=
 ⟨h.bel.setCell Hd u,fun x g l=>by
  obtain⟨e,f⟩:=h.blk x g l;exact⟨(Dg Ck).trans e,f⟩⟩
def Jr{P:Program}{B:Array Oper}{o:Oper}{a:Act}{w:TW}{K:Act->TW->Prop}{Q:Exit->Act->TW->Prop}{E:Prop} (C:o.guard=none)(s x:Operand)(t:TypeId)(D:o.op=Op.call { callee:=Callee.builtin Builtin.append,args:=#[s,x],argTypes:=#[t,t] }) (l:Nat)(e:TypeId)(i:TypeInfo)(z:TX)(b p:Nat)(F:P.underlying t=some (.s e))(G:P.info? e=some i)(I:i.zero=some z)(J:i.size=b)(L:i.bytes=p)(N:z.cells.size=b)(O:0<b) (v:TX)(n:Nat)(q:TV)(V:a.eval s=v)(Y:w.ownsRow l e b v n q) (A:Addr)(m c:Nat)(g:TV)(Z:a.eval x=.s (some A) m c)(hn:g.length=m*b)(hc:∀j u,g[j]?=some u->w.cell? (A.add j)=some u)(a0:∀u∈g,u.oneCell'=true) (b1:n+m<=maxLen)(b2:(n+m)*p<=140737488355328)(b3:l<=w.heap.size) (hK:∀f h,h.ownsRow l e b f (n+m) (q++g)->w.grownBy h v.ownBlock->(f.ownBlock=v.ownBlock\/f.ownBlock=some w.heap.size)->K (a.put o.dst f) h):if Region.wanted o (yielded B a.tmps)=true then Oper.wp P o a w K Q else E:=by
 have hw:Region.wanted o (yielded B a.tmps)=true:=by simp[Region.wanted,C]
 rw[Th hw];obtain⟨f,h,a1,r1,r2,_,r3⟩:=run_append_own_at (P:=P) w l t o.type e i z b p F G I J L N O v n q Y A m c g hn hc a0 b1 b2 b3;unfold Oper.wp;simp[execOp,D,resolve,invoke,builtin,V,Z,a1,Result.andThen];exact hK f h r1 r2 r3
def Ea.grown{w m:TW}{u k:Nat}{c:BnC}{v:FrV}{b:Dv}(h:Ea w u k c v b){g:TA}{t O:Nat}{st:TP}(l:w.grownBy m v.sv.ownBlock)(A:Cq m u (.s g t O) st)(C:st.length<=5000) (q:(Value.slice g t O).ownBlock=v.sv.ownBlock\/(Value.slice g t O).ownBlock=some w.heap.size):Ea (m.setCell (.a k 3) (.s g t O)) u k c ⟨v.la,v.ln,v.lc,g,t,O⟩ ⟨b.lo,st,b.br⟩/\Bn k w v (m.setCell (.a k 3) (.s g t O)) ⟨v.la,v.ln,v.lc,g,t,O⟩:=by
 have D:m.heap[k]?=_:=(l.block k h.k_lt (fun e=>h.nk.2 e.symm)).trans h.blk;have F:∀j,v.lv.ownBlock=some j->m.heap[j]?=w.heap[j]?:=fun j i=>l.block j (h.lo.lt j i).2 (fun e=>h.ns j i e.symm);have z:(Value.slice g t O).ownBlock≠some k:=by
  rcases q with e|e
  ·rw[e];exact h.nk.2
  rw[e];intro f;have:=h.k_lt;simp at f;omega
 have G:∀j,v.lv.ownBlock=some j->(Value.slice g t O).ownBlock≠some j:=by
  intro j i;rcases q with e|e
  ·rw[e];exact h.ns j i
  rw[e];intro f;have:=(h.lo.lt j i).2;simp at f;omega
 have I:Below u w m:=⟨l.os,l.tape,l.output,l.size,fun j i=>l.block j (Brs i h.B_le) (fun e=>by have:=(h.st.lt j e.symm).1;omega)⟩;have J:Ea m u k c v ⟨b.lo,b.st,b.br⟩->True:=fun _=>trivial;clear J;refine⟨⟨by rw[Bt D];rfl,Js (Js h.lo F) (fun j i=>Dg (fun e=>h.nk.1 (e▸i))),Js A (fun j i=>Dg (fun e=>z (e▸i))),⟨h.nk.1,z⟩,G,h.hB,
  Mv (Mv h.tr h.tB I) h.tB ((Brm u m).setCell (by simpa using h.hB) _),h.tB,h.tl,h.ll,C⟩,?_⟩
 refine⟨(⟨l.os,l.tape,l.output,l.size,fun j i=>absurd i (Nat.not_lt_zero _)⟩:Below 0 w m).setCell Hd _,fun j i p=>⟨?_,p.1,p.2.1,?_⟩⟩
 ·rw[Dg p.1];exact l.block j i (fun e=>p.2.2 e.symm)
 rcases q with e|e
 ·exact fun f=>p.2.2 (e.symm.trans f)
 intro f;rw[e]at f;simp at f;omega
def Vr(w:TW):Calls prog 166 #[] w fun e b=>e=.r (.agg #[.i 0,.i 0])/\Bl w b:=by
 go_in;go_wp2;refine tb (.agg #[.i 0,.i 0]) (by simp[results,results166,go_sem]) ?_;exact⟨rfl,by repeat (first|refine Bry ?_ Hd _|refine Bs4 ?_ Hd _|exact Brm _ _)⟩
def L8(w:TW)(B k:Nat)(c:BnC)(v:FrV)(b:Dv)(h:Ea w B k c v b):Calls prog 265 #[.q k 0] w fun e Q=>e=.r (.agg #[.i (Bj b).1.1,.i (Bj b).1.2])/\∃V,Ea Q B k c V (Bj b).2/\Bn k w v Q V:=by
 have Y:=h.alloc (O7 0 0);have Z:=(Bn.refl k w v).alloc (O7 0 0);have b5:=h.k_lt;have a0:=h.B_le;have a7:=h.new (Bru _);have RA:=Be w (O7 0 0);obtain⟨j,l,z,sa,sn,sc⟩:=v;obtain⟨D,f,I⟩:=b;obtain⟨xa,xc,a1⟩:=Bh h.st;simp only[Value.slice.injEq]at a1;obtain⟨rfl,a8,rfl⟩:=a1;subst a8;have A:=h.blk;have c3:=Bb A 3;have c5:=Bb A 5;have f5:=Bk A 5;have f3:=Bk A 3;simp at c3 c5;have C:=h.st;have a9:=h.sl;simp only at C a9;by_cases hz:f.length=0
 ·have e:Bj ⟨D,f,I⟩=((0,0),⟨D,f,true⟩):=by unfold Bj;rw[Th hz]
  rw[e];have b6:(f.length:Int)=0:=Ck;have a2:=(h.brk).alloc (O7 0 0);have a3:=((Bn.refl k w ⟨j,l,z,sa,f.length,sc⟩).brk).alloc (O7 0 0);have J:=Be (w.setCell (.a k 5) (.bool true)) (O7 0 0);have a4:(w.setCell (.a k 5) (.bool true)).heap.size=w.heap.size:=by simp[World.setCell]
  rw[a4]at J;clear e C A a4;go_in;go_wp2_with fail;refine Qm (Vr _) ?_;intro w1 F;have b0:=a2.below F;have a5:=a3.trans (Bn.of_below _ F);have K:=stay F J;obtain⟨r0,r1⟩:=cl2 K;obtain⟨q0,q1⟩:=fr2 K;have lr:=Sp K;have b7:=a5.bel.size;simp at r0 r1;clear F Y a2 Z a3 RA J;have a6:FrV.free ⟨j,l,z,sa,f.length,sc⟩ k w.heap.size:=a7;go_wp2;refine tb (.agg #[.i 0,.i 0]) (by simp[results,results265,go_sem,r0,r1]) ?_;exact⟨rfl,_,(b0.setF a6 a0 _).setF a6 a0 _,(a5.setF (Bru _) _).setF (Bru _) _⟩
 obtain⟨m,G⟩:∃m,f.length=m+1:=⟨f.length-1,Ck⟩;have e:Bj ⟨D,f,I⟩=(f.getD m (0,0),⟨D,f.take m,I⟩):=by unfold Bj;rw[Pk hz];simp only[G,Bvu]
 rw[e];obtain⟨g,hg,b8,_,L⟩:=Cf C Ck;obtain⟨t1,t2,t3⟩:=Fu f m Ck;have y0:=(L (m*2) Ck).trans t1;have y1:=(L (m*2+1) Ck).trans t2;have e2:f.getD m (0,0)=f[m]:=by simp[Vm,G]
 rw[e2];generalize f[m]=t at *;obtain⟨b1,b2⟩:=t;simp only at y0 y1 ⊢;subst hg;have N:=h.nk.2;have O:=h.ns;simp only[G]at N O;have hS:=h.setS (sa:=some ⟨g,0,none⟩) (sn:=m) (sc:=sc) (Blx C Ck) Fr N O;have GS:=(Bn.refl k w ⟨j,l,z,some ⟨g,0,none⟩,f.length,sc⟩).setK (i:=3) (v2:=⟨j,l,z,some ⟨g,0,none⟩,m,sc⟩) (.s (.p g) m sc) rfl rfl;obtain⟨-,b3,b4⟩:=(TyR.of_tys C).cap;simp only at b3 b4;have kb:(m:Int)<(f.length:Int):=Ck;have kw:IntKind.i64.wrap ((f.length:Int)-1)=(m:Int):=by rw[Cx _ Ck (by unfold maxLen at *;omega)];omega
 have kc:(m:Int)<=(sc:Int):=Ck;have km:m<=sc:=Ck;clear e e2 Y Z RA L t1 t2 t3 N O G;go_in;go_wp2;refine tb (.agg #[.i b1,.i b2]) (by simp[results,results265,go_sem]) ?_;exact⟨rfl,⟨j,l,z,some ⟨g,0,none⟩,m,sc⟩,(hS.alloc _).alloc _,(GS.alloc _).alloc _⟩
def Nd(w:TW)(B k:Nat)(c:BnC)(v:FrV)(b:Dv)(g l:Int)(h:Ea w B k c v b)(a8:b.st.length<5000):Calls prog 266 #[.q k 0,.agg #[.i g,.i l]] w fun e G=>e=.r (.tuple #[])/\∃I,Ea G B k c I (Ed c.hi (g,l) b)/\Bn k w v G I:=by
 have t:=h.alloc (O7 g l);have GA:=(Bn.refl k w v).alloc (O7 g l);have b0:=h.k_lt;have b1:=h.B_le;obtain⟨la,ln,lc,L,sn,N⟩:=v;obtain⟨lo,st,br⟩:=b;obtain⟨xa,xc,a7⟩:=Bh h.st;simp only[Value.slice.injEq]at a7;obtain⟨rfl,a9,rfl⟩:=a7;subst a9;have V:=Bb t.blk 3;have Y:=Bb t.blk 4;have c5:=Bb t.blk 5;have f5:=Bk t.blk 5;have f3:=Bk t.blk 3;have PA:=Be w (O7 g l);obtain⟨p0,p1⟩:=cl2 PA;simp at V Y c5 p0 p1;obtain⟨Z,hi,a0,a1,a2⟩:=Bsa Tryz.infoType;simp only at a8;have a3:(w.alloc (O7 g l)).ownsRow B 31 2 (.s L st.length N) st.length (Bp st):=t.st;have a4:=h.nk.2;unfold Ed;by_cases hz:c.hi<=(st.length:Int)
 ·rw[Th hz];go_in;go_wp2
  go_region_held3 (fun G=>G.C k 3 (.s L st.length N)/\G.C k 4 (.i c.hi)) (exact⟨V,Y⟩) (fail)
  go_wp2;refine tb (.tuple #[]) (by simp[results,results266,go_sem]) ?_;exact⟨rfl,_,(h.brk.alloc _).drew,(((Bn.refl k w ⟨la,ln,lc,L,st.length,N⟩).brk).alloc _).drew⟩
 rw[Pk hz];have a5:∀j u,[Value.int .i64 g,.i l][j]?=some u->((w.alloc (O7 g l)).alloc (O7 g l)).drew.drew.cell? ((⟨w.heap.size+1,0,none⟩:Addr).add j)=some u:=by
  intro j u hu;exact Dh (w.alloc (O7 g l)) [.i g,.i l] 31 (w.heap.size+1) Hd j u hu
 have a6:∀D F J,J.ownsRow B 31 2 (.s D (st.length+1) F) (st.length+1) (Bp st++[.i g,.i l])->World.grownBy ((w.alloc (O7 g l)).alloc (O7 g l)).drew.drew J (Value.slice L st.length N).ownBlock ->
   ((Value.slice D (st.length+1) F).ownBlock=(Value.slice L st.length N).ownBlock\/(Value.slice D (st.length+1) F).ownBlock=some ((w.alloc (O7 g l)).alloc (O7 g l)).drew.drew.heap.size)->∃I,Ea (J.setCell (.a k 3) (.s D (st.length+1) F)) B k c I ⟨lo,st++[(g,l)],br⟩/\Bn k w ⟨la,ln,lc,L,st.length,N⟩ (J.setCell (.a k 3) (.s D (st.length+1) F)) I:=by
  intro D F J z A O;have hG:=((t.alloc (O7 g l)).drew.drew).grown (st:=st++[(g,l)]) A (by unfold Cq;rw[Ib,Ws];exact z) Fr O;exact⟨_,hG.1,(((GA.alloc (O7 g l)).drew.drew).trans hG.2)⟩
 go_in;go_wp2
 go_region_held3 (fun G=>G.C k 3 (.s L st.length N)/\G.C k 4 (.i c.hi)) (exact⟨V,Y⟩) (fail)
 go_wp2
 -- MOVES
 refine Br4 (S:=fun _=>True) Lt trivial (fun m=>?_);refine tq 0 (.q k 0) m ?_;refine tq 1 (.q k 0) m ?_;refine tq 2 (.q k 0) m ?_;refine tq 3 (.q k 3) m ?_;refine Brv (rs:=[4,5]) Lt Hd ?_;refine Bri (o:=⟨_,_,_,_,_,_⟩) rfl (fun K f=>?_) (Bri (o:=⟨_,_,_,_,_,_⟩) rfl (fun K f=>?_) Bro)
 ·go_simp;refine f.out _ _ trivial (fun m=>?_);clear f K
  try simp only[QX]
  refine tr 5 fun K f=>?_;go_simp;refine f.out _ _ trivial (fun m=>?_);clear f K
  try simp only[QX]
  refine tr 6 fun K f=>?_;go_simp;refine f.out _ _ trivial (fun m=>?_);clear f K
  try simp only[QX]
  refine tr 7 fun K f=>?_;refine Jr Ls _ _ _ Ls B 31 Z _ 2 16 Bsk hi a0 a1 a2 rfl Ck _ _ _ Ls ((a3.alloc (O7 g l)).drew.drew) ⟨w.heap.size+1,0,none⟩ 1 1 [.i g,.i l] Ls Ls a5 (by simp[Value.oneCell']) Pf Ck Fr ?_;intro I J z A O;obtain⟨D,F,rfl⟩:=Bh z;have p:=(A.block k Fr (fun e=>a4 e.symm)).trans (Bg t.blk (O7 g l));have Q:=Bb p 3;have f2:=Bk p 3;have l2:=Sp p;simp at Q;refine f.out _ _ trivial (fun m=>?_);clear f K
  try simp only[QX]
  refine tq 8 (.q k 0) m ?_;refine tq 9 (.q k 3) m ?_;refine tr 10 fun K f=>?_;go_simp;refine f.out _ _ trivial (fun m=>?_);clear f K
  try simp only[QX]
  refine Bsg Lt ?_ _;go_wp2;go_end0;exact⟨rfl,a6 _ _ _ z A O⟩
 ·go_simp;refine f.out _ _ trivial (fun m=>?_);clear f K
  try simp only[QX]
  refine Brv (rs:=[4,6]) Lt Hd ?_;refine Bri (o:=⟨_,_,_,_,_,_⟩) rfl (fun K f=>?_) (Bri (o:=⟨_,_,_,_,_,_⟩) rfl (fun K f=>?_) Bro)
  ·go_simp;refine f.out _ _ trivial (fun m=>?_);clear f K
   try simp only[QX]
   refine tr 6 fun K f=>?_;go_simp;refine f.out _ _ trivial (fun m=>?_);clear f K
   try simp only[QX]
   refine tr 7 fun K f=>?_;refine Jr Ls _ _ _ Ls B 31 Z _ 2 16 Bsk hi a0 a1 a2 rfl Ck _ _ _ Ls ((a3.alloc (O7 g l)).drew.drew) ⟨w.heap.size+1,0,none⟩ 1 1 [.i g,.i l] Ls Ls a5 (by simp[Value.oneCell']) Pf Ck Fr ?_;intro I J z A O;obtain⟨D,F,rfl⟩:=Bh z;have p:=(A.block k Fr (fun e=>a4 e.symm)).trans (Bg t.blk (O7 g l));have Q:=Bb p 3;have f2:=Bk p 3;have l2:=Sp p;simp at Q;refine f.out _ _ trivial (fun m=>?_);clear f K
   try simp only[QX]
   refine tq 8 (.q k 0) m ?_;refine tq 9 (.q k 3) m ?_;refine tr 10 fun K f=>?_;go_simp;refine f.out _ _ trivial (fun m=>?_);clear f K
   try simp only[QX]
   refine Bsg Lt ?_ _;go_wp2;go_end0;exact⟨rfl,a6 _ _ _ z A O⟩
  go_simp;refine f.out _ _ trivial (fun m=>?_);clear f K
  try simp only[QX]
  refine tr 4 fun K f=>?_;go_simp;refine f.out _ _ trivial (fun m=>?_);clear f K
  try simp only[QX]
  refine tr 7 fun K f=>?_;refine Jr Ls _ _ _ Ls B 31 Z _ 2 16 Bsk hi a0 a1 a2 rfl Ck _ _ _ Ls ((a3.alloc (O7 g l)).drew.drew) ⟨w.heap.size+1,0,none⟩ 1 1 [.i g,.i l] Ls Ls a5 (by simp[Value.oneCell']) Pf Ck Fr ?_;intro I J z A O;obtain⟨D,F,rfl⟩:=Bh z;have p:=(A.block k Fr (fun e=>a4 e.symm)).trans (Bg t.blk (O7 g l));have Q:=Bb p 3;have f2:=Bk p 3;have l2:=Sp p;simp at Q;refine f.out _ _ trivial (fun m=>?_);clear f K
  try simp only[QX]
  refine tq 8 (.q k 0) m ?_;refine tq 9 (.q k 3) m ?_;refine tr 10 fun K f=>?_;go_simp;refine f.out _ _ trivial (fun m=>?_);clear f K
  try simp only[QX]
  refine Bsg Lt ?_ _;go_wp2;go_end0;exact⟨rfl,a6 _ _ _ z A O⟩
 -- END
def TyF (w:TW)(k:Nat)(v:FrV)(a:TA)(n cp:Nat)(l:TP):Prop:=TyR w (.slice a n cp) l/\∀g o,a=some ⟨g,o,none⟩->v.free k g
def TyF.bn{w s:TW}{k n t:Nat}{v f:FrV}{a:TA}{q:TP}(h:TyF w k v a n t q)(z:Bn k w v s f):TyF s k f a n t q:=by
 obtain⟨b|⟨g,o,c,A,i,m,b,B,C⟩,D⟩:=h
 ·refine⟨.inl b,fun g o e=>?_⟩;have:=b.1;simp only[Value.slice.injEq]at this;rw[this.1]at e;cases e
 simp only[Value.slice.injEq]at i;obtain⟨rfl,rfl,rfl⟩:=i;have F:=D g o rfl;obtain⟨p,G⟩:=z.blk g (Sp m) F;refine⟨.inr ⟨g,o,t,A,rfl,p.trans m,b,B,fun j x I=>?_⟩,fun J K e=>?_⟩
 ·rw[Brr (a:=⟨g,o+j,none⟩) p];exact C j x I
 simp only[Option.some.injEq,Addr.mk.injEq,Br8]at e;rw[<- e.1];exact G
def Zd(T:TI)(l:TP):∀(k:Nat) (b:Dv),(Fn T l k b).st.length<=b.st.length
 | 0,b=>Bru _
 | k+1,b=>by
  unfold Fn;refine Br5 (Zd T l k _) ?_;rw[(Bd8 _ _ _ _).2.1];unfold Bj
  split<;>simp
def Rj(w:TW)(B k:Nat)(c:BnC)(v:FrV)(b:Dv)(a:TA)(n cp:Nat)(l:TP)(h:Ea w B k c v b)(hl:TyF w k v a n cp l)(c1:l.length<=20000):Calls prog 271 #[.q k 0,.s a n cp] w fun e F=>e=.r (.tuple #[])/\∃L,Ea F B k c L (Ga c.T l b)/\Bn k w v F L:=by
 unfold Ga;generalize hR:Fn c.T l l.length b=R;have J:=Bc hR;clear hR;obtain⟨hn,-,-⟩:=hl.1.cap;subst hn;go_in;go_wp2
 go_loopw [4] (fun s wr=>∃(m:Nat) (L:FrV) (b':Dv),m<=l.length/\s=.i ((m:Int)-1)/\Hid (Fn c.T l m b'=R)/\Ea wr B k c L b'/\Bn k w v wr L)
  (fun s _=>(intOf s+1).toNat)
 case atStart=>exact⟨l.length,v,b,Bru _,Mg,J,h,Bn.refl _ _ _⟩
 case round=>
  clear J h;obtain⟨m,v1,V,hm,rfl,J,h,hG⟩:=hrel;cases m with
  | zero =>
   have HE:Hid (V=R):=Ba J;clear J;go_wp2;go_end0;obtain rfl:=Ba HE;exact⟨rfl,v1,h,hG⟩
  | succ m =>
   have D:=Ba J;rw[Fn]at D;have a2:=L8 wr B k c v1 V h;have a3:=hl.bn hG;have c2:=h.k_lt;have c3:=h.sl;have b6:(0:Int)<=((m+1:Nat):Int)-1:=Ck;have a4:((m+1:Nat):Int)-1=(m:Int):=Ck;rw[a4];generalize b7:(Bj V).1=t at *;obtain⟨f,j⟩:=t;generalize b8:(Bj V).2=I at *;have b9:=Bc a2;have a5:=Bc D;clear a2 D J b7 b8 b6 a4;go_wp2_with fail;refine Qm (Ba b9) ?_;rintro z ⟨v2,h2,a0⟩;have a6:=(a3.bn a0);obtain⟨g,o,rfl,a7,a8⟩:=a6.1.at Ck;obtain⟨y0,y1⟩:=a8 m Ck;have hx:l.getD m (0,0)=l[m]:=by simp[Vm,show m<l.length by omega]
   have D:=Ba a5;rw[hx]at D;generalize l[m]=x at *;obtain⟨N,O⟩:=x;simp only at y0 y1;have K:=h2.alloc (O7 f j);have a9:=(hG.trans a0).alloc (O7 f j);have Y:=Be z (O7 f j);have p0:(z.alloc (O7 f j)).C z.heap.size 0 (.i f):=(Bb Y 0).trans rfl;have p1:(z.alloc (O7 f j)).C z.heap.size 1 (.i j):=(Bb Y 1).trans rfl;have Z:=Bb K.blk 0;have k1:=Bb K.blk 1;have lT:=Sp Y;have lK:=K.k_lt;simp at Z k1;have z0:=(Bsu z (O7 f j) ⟨g,o+m*2,none⟩ a7).trans y0;have z1:=(Bsu z (O7 f j) ⟨g,o+m*2+1,none⟩ a7).trans y1;have lg:g<(z.alloc (O7 f j)).heap.size:=Fr;have b0:=Bam (ya:=c.ya) (yn:=c.yn) (yc:=c.yc) c.T c.tg c.tc f j N O (z.alloc (O7 f j)).drew K.tl K.drew.tr;have b3:Tp c.T (f,j) (N,O) I=if Tr.fitsB c.T f j N O=true then I else ⟨I.lo,I.st,true⟩:=rfl
   rw[b3]at D;generalize Tr.fitsB c.T f j N O=A at *;have b4:=Bc b0;have kb:(m:Int)<(l.length:Int):=Ck;have c4:(0:Int)<=(m:Int):=Ck;clear a8 hx a3 a5 b0 b3 y0 y1 a6 a0 h2;go_wp2
   go_region_held3 (fun F=>F.C k 0 (.s (.p c.tg) c.T.length c.tc)/\F.C k 1 (.s c.ya c.yn c.yc)/\F.C z.heap.size 0 (.i f)/\F.C z.heap.size 1 (.i j)/\F.C g (o+m*2) (.i N)/\F.C g (o+m*2+1) (.i O))
    (first|exact⟨Z,k1,p0,p1,z0,z1⟩|exact⟨QC G lK Z,QC G lK k1,QC G lT p0,QC G lT p1,QC G lg z0,QC G lg z1⟩)
    (first|(go_at_call 118;refine(Ba b4).mono ?_;rintro e w7 ⟨rfl,G⟩))
   have Q:=K.drew.below G;have b5:=a9.drew.trans (Bn.of_below _ G);have c5:=Bb Q.blk 5;have f5:=Bk Q.blk 5;have c6:=Q.k_lt;simp at c5;clear G Z k1 p0 p1 z0 z1 lK lT lg Y K a9 b4;cases A with
   | true =>
    have a1:Hid (Fn c.T l m I=R):=by unfold Hid;rw[<- D];rfl
    clear D;go_wp2;go_roundw
    case rel=>exact⟨m,v2,I,Ck,Mg,a1,Q,b5⟩
    case measure=>simp[intOf]
   | false =>
    have a1:Hid (Fn c.T l m ⟨I.lo,I.st,true⟩=R):=by unfold Hid;rw[<- D];rfl
    clear D;have h8:=Q.brk;have c0:=b5.brk;go_wp2;go_roundw
    case rel=>exact⟨m,v2,_,Ck,Mg,a1,h8,c0⟩
    case measure=>simp[intOf]
def Bdq(w:TW)(B k:Nat)(c:BnC)(v:FrV)(b:Dv)(a:TA)(n F:Nat)(l:TP)(h:Ea w B k c v b)(G:TyF w k v a n F l)(a4:b.st.length+l.length<=4000):Calls prog 273 #[.q k 0,.s a n F] w fun e I=>e=.r (.tuple #[])/\∃j,Ea I B k c j (Gi c.hi l b)/\Bn k w v I j:=by
 generalize J:Gi c.hi l b=R;have f:Hid (Gi c.hi (l.drop 0) b=R):=J;clear J;obtain⟨Y,-,-⟩:=G.1.cap;subst Y;go_in;go_wp2
 go_loopw [8] (fun s wr=>∃(m:Nat) (j:FrV) (A:Dv),m<=l.length/\s=.i (m:Int)/\A.st.length<=b.st.length+m/\Hid (Gi c.hi (l.drop m) A=R)/\Ea wr B k c j A/\Bn k w v wr j)
  (fun s _=>l.length-(intOf s).toNat)
 case atStart=>exact⟨0,v,b,Ck,rfl,Ck,f,h,Bn.refl _ _ _⟩
 case round=>
  clear f h;obtain⟨m,K,z,hm,rfl,a5,f,h,C⟩:=hrel;by_cases L:m<l.length
  ·have Z:=G.bn C;obtain⟨g,o,rfl,a6,N⟩:=Z.1.at Ck;obtain⟨y0,y1⟩:=N m L;have O:l.drop m=l[m]::l.drop (m+1):=Brj L;have D:=Ba f;rw[O,Gi]at D;generalize l[m]=x at *;obtain⟨p,t⟩:=x;simp only at y0 y1;have h2:=h.alloc (O7 p t);have a0:=C.alloc (O7 p t);have Q:=Nd _ B k c K z p t h2 Ck;have a7:(Ed c.hi (p,t) z).st.length<=b.st.length+(m+1):=by unfold Ed;split<;>simp<;>omega
   generalize Ed c.hi (p,t) z=V at *;have a1:=Bc Q;have a2:Hid (Gi c.hi (l.drop (m+1)) V=R):=D;have kb:(m:Int)<(l.length:Int):=Ck;clear Q D f O N;go_wp2_with fail;refine Qm (Ba a1) ?_;rintro w1 ⟨v2,h3,a3⟩;go_wp2;go_roundw
   case rel=>exact⟨m+1,v2,V,Ck,Mg,Ck,a2,h3,a0.trans a3⟩
   case measure=>simp[intOf];omega
  have HE:Hid (z=R):=by unfold Hid;rw[<- Ba f,Brq Ck,Gi]
  have kb:¬(m:Int)<(l.length:Int):=Ck;clear f;go_wp2;go_end0;obtain rfl:=Ba HE;exact⟨rfl,K,h,C⟩
def Bm2(w:TW)(B k:Nat)(c:BnC)(v:FrV)(b:Dv)(n:Nat)(h:Ea w B k c v b)(N:b.st.length<5000):Calls prog 263 #[.q k 0,.i (n:Int)] w fun e F=>e=.r (.tuple #[])/\∃G,Ea F B k c G (Va c.hi (n:Int) b)/\Bn k w v F G:=by
 have j:=fun O Q=>Nd w B k c v b O Q h N;have l:=h.blk;have a4:=h.k_lt;have z:=h.lo;obtain⟨la,ln,lc,sa,sn,sc⟩:=v;obtain⟨f,V,Y⟩:=b;obtain⟨xa,xc,I⟩:=Bh h.lo;simp only[Value.slice.injEq]at I;obtain⟨rfl,Z,rfl⟩:=I;subst Z;have c2:=Bb l 2;have c5:=Bb l 5;have f5:=Bk l 5;simp at c2 c5;unfold Va;simp only;rw[Pk Ck,Brx];have a5:¬(n:Int)<0:=Ck;have a0:=h.ll;simp only at a0 z;by_cases s:(f.length:Int)<=(n:Int);·rw[Th s];clear j l z;go_in;go_wp2;refine tb (.tuple #[]) (by simp[results,results263,go_sem]) ?_;exact⟨rfl,_,h.brk,(Bn.refl _ _ _).brk⟩
 rw[Pk s];have J:n<f.length:=Ck;have a6:(n:Int)<(f.length:Int):=Ck;obtain⟨g,hg,a7,_,t⟩:=Cf z Ck;obtain⟨A,C,K⟩:=Fu f n J;have y0:=(t (n*2) Ck).trans A;have y1:=(t (n*2+1) Ck).trans C;have D:f.getD n (0,0)=f[n]:=by simp[Vm,J]
 rw[D];generalize f[n]=x at *;obtain⟨p,L⟩:=x;simp only at y0 y1 ⊢;subst hg;by_cases m:p=0
 ·rw[Th m];have a1:(p==0)=true:=by simp[m]
  clear m j l t A C K D s;go_in;go_wp2;refine tb (.tuple #[]) (by simp[results,results263,go_sem]) ?_;exact⟨rfl,_,h.brk,(Bn.refl _ _ _).brk⟩
 rw[Pk m];have a1:(p==0)=false:=by simp[m]
 have j:=j p L;generalize Ed c.hi (p,L) ⟨f,V,Y⟩=b2 at *;have a2:=Bc j;clear m j l t A C K D s;go_in;go_wp2_with fail;refine Qm (Ba a2) ?_;rintro w1 ⟨v2,h3,a3⟩;go_wp2;go_end0;exact⟨rfl,v2,h3,a3⟩
def Ea.setLo{w:TW}{u k:Nat}{c:BnC}{v:FrV}{b:Dv}(h:Ea w u k c v b){g ln lc q:Nat}(z:v.lv=.s (.p g) ln lc)(I:q<b.lo.length)(f l:Int):Ea ((w.setCell (.a g (q*2)) (.i f)).setCell (.a g (q*2+1)) (.i l)) u k c v ⟨b.lo.set q (f,l),b.st,b.br⟩/\Bn k w v ((w.setCell (.a g (q*2)) (.i f)).setCell (.a g (q*2+1)) (.i l)) v:=by
 have t:v.lv.ownBlock=some g:=by rw[z];rfl
 have J:k≠g:=fun e=>h.nk.1 (e▸t);have K:v.sv.ownBlock≠some g:=h.ns g t;have C:u<=g:=(h.lo.lt g t).1;have A:∀j,j≠g->((w.setCell (.a g (q*2)) (.i f)).setCell (.a g (q*2+1)) (.i l)).heap[j]?=w.heap[j]?:=fun j m=>(Dg m).trans (Dg m);have D:=h.lo;rw[z]at D;obtain⟨O,F,-,-,-,-,-,-,L⟩:=Sm D I f l;simp only[Option.some.injEq,Addr.mk.injEq,Br8]at F;subst F;have N:Below u w ((w.setCell (.a g (q*2)) (.i f)).setCell (.a g (q*2+1)) (.i l)):=((Brm u w).setCell (by simpa using C) _).setCell (by simpa using C) _;refine⟨⟨(A k J).trans h.blk,by rw[z];exact L,Js h.st (fun j m=>A j (fun e=>K (e▸m))),h.nk,h.ns,h.hB,Mv h.tr h.tB N,h.tB,h.tl,by simpa using h.ll,h.sl⟩,?_⟩;exact⟨((Brm 0 w).setCell Hd _).setCell Hd _,fun j m G=>⟨A j (fun e=>G.2.1 (e▸t)),G⟩⟩
def Ea.setSt{w:TW}{u k:Nat}{c:BnC}{v:FrV}{b:Dv}(h:Ea w u k c v b){g O I q:Nat}(z:v.sv=.s (.p g) O I)(J:q<b.st.length)(f l:Int):Ea ((w.setCell (.a g (q*2)) (.i f)).setCell (.a g (q*2+1)) (.i l)) u k c v ⟨b.lo,b.st.set q (f,l),b.br⟩/\Bn k w v ((w.setCell (.a g (q*2)) (.i f)).setCell (.a g (q*2+1)) (.i l)) v:=by
 have t:v.sv.ownBlock=some g:=by rw[z];rfl
 have K:k≠g:=fun e=>h.nk.2 (e▸t);have L:v.lv.ownBlock≠some g:=fun e=>h.ns g e t;have C:u<=g:=(h.st.lt g t).1;have A:∀j,j≠g->((w.setCell (.a g (q*2)) (.i f)).setCell (.a g (q*2+1)) (.i l)).heap[j]?=w.heap[j]?:=fun j m=>(Dg m).trans (Dg m);have D:=h.st;rw[z]at D;obtain⟨V,F,-,-,-,-,-,-,N⟩:=Sm D J f l;simp only[Option.some.injEq,Addr.mk.injEq,Br8]at F;subst F;have Q:Below u w ((w.setCell (.a g (q*2)) (.i f)).setCell (.a g (q*2+1)) (.i l)):=((Brm u w).setCell (by simpa using C) _).setCell (by simpa using C) _;refine⟨⟨(A k K).trans h.blk,Js h.lo (fun j m=>A j (fun e=>L (e▸m))),by rw[z];exact N,h.nk,h.ns,h.hB,Mv h.tr h.tB Q,h.tB,h.tl,h.ll,by simpa using h.sl⟩,?_⟩;exact⟨((Brm 0 w).setCell Hd _).setCell Hd _,fun j m G=>⟨A j (fun e=>G.2.2 (e▸t)),G⟩⟩
def Cq.alloc'{w:TW}{u:Nat}{l:TX}{q:TP}(h:Cq w u l q)(o:Obj):Cq (w.alloc o) u l q:=Js h (fun j c=>Br2 _ _ _ (h.lt j c).2)
theorem Bi6(w:World)(B k:Nat)(c:BnC)(v:FrV)(b:Dv)(n:Nat)(h:Ea w B k c v b)(hn:n<=100000):Calls prog 264 #[.pointer (some ⟨k,0,none⟩),.int .i64 (n:Int)] w fun e w'=>e=.returned (.tuple #[])/\∃v',Ea w' B k c v' (To (n:Int) b)/\Bn k w v w' v':=by
 have hta:=L8 w B k c v b h;have hlo2:=Bfr b;unfold To;rw[Pk Ck,Brx];rw[<- hlo2];generalize Bj b=tb at *;obtain⟨⟨t1,t2⟩,b2⟩:=tb;simp only at hta ⊢;have HTA:=Bc hta;have hn0:¬(n:Int)<0:=Ck;clear hta hlo2 h;by_cases hlen:(b2.lo.length:Int)<=(n:Int);·rw[Th hlen];go_in;go_wp2_with fail;refine(Ba HTA).mono ?_;rintro e w1 ⟨rfl,v1,h1,hG1⟩;obtain⟨la,ln,lc,sa,sn,sc⟩:=v1;obtain⟨xa,xc,hsh⟩:=Bh h1.lo;simp only[Value.slice.injEq]at hsh;obtain⟨rfl,hn1,rfl⟩:=hsh;subst hn1;have h2:=h1.alloc (O7 t1 t2);have hG2:=hG1.alloc (O7 t1 t2);have c2:=Bb h1.blk 2;have c5:=Bb h1.blk 5;have f5:=Bk h1.blk 5;have lk:=h1.k_lt;have hll:=h1.ll;simp at c2 c5;go_wp2;refine tb (.tuple #[]) (by simp[results,results264,go_sem]) ?_;exact⟨rfl,_,h1.brk.alloc _,hG1.brk.alloc _⟩
 rw[Pk hlen];have hq:n<b2.lo.length:=Ck;have hqi:(n:Int)<(b2.lo.length:Int):=Ck;clear hlen;go_in;go_wp2_with fail;refine(Ba HTA).mono ?_;rintro e w1 ⟨rfl,v1,h1,hG1⟩;obtain⟨la,ln,lc,sa,sn,sc⟩:=v1;obtain⟨xa,xc,hsh⟩:=Bh h1.lo;simp only[Value.slice.injEq]at hsh;obtain⟨rfl,hn1,rfl⟩:=hsh;subst hn1;have h2:=h1.alloc (O7 t1 t2);have hG2:=hG1.alloc (O7 t1 t2);have c2:=Bb h1.blk 2;have c5:=Bb h1.blk 5;have f5:=Bk h1.blk 5;have lk:=h1.k_lt;have hll:=h1.ll;simp at c2 c5;obtain⟨g,hg,hglt,_,y0,y1,z0,z1,-⟩:=Sm h1.lo hq t1 t2;subst hg;have hS:=h1.setLo (g:=g) (ln:=b2.lo.length) (lc:=lc) (q:=n) rfl hq t1 t2;have hSA:=hS.1.alloc (O7 t1 t2);have hsz:((w1.setCell ⟨g,n*2,none⟩ (.int .i64 t1)).setCell ⟨g,n*2+1,none⟩ (.int .i64 t2)).heap.size=w1.heap.size:=by simp[World.setCell]
 have TS:=Be ((w1.setCell ⟨g,n*2,none⟩ (.int .i64 t1)).setCell ⟨g,n*2+1,none⟩ (.int .i64 t2)) (O7 t1 t2);rw[hsz]at TS;have s0:(((w1.setCell ⟨g,n*2,none⟩ (.int .i64 t1)).setCell ⟨g,n*2+1,none⟩ (.int .i64 t2)).alloc (O7 t1 t2)).cell? ⟨w1.heap.size,0,none⟩=some (.int .i64 t1):=(Bb TS 0).trans rfl;have s1:(((w1.setCell ⟨g,n*2,none⟩ (.int .i64 t1)).setCell ⟨g,n*2+1,none⟩ (.int .i64 t2)).alloc (O7 t1 t2)).cell? ⟨w1.heap.size,1,none⟩=some (.int .i64 t2):=(Bb TS 1).trans rfl;have s2:(((w1.setCell ⟨g,n*2,none⟩ (.int .i64 t1)).setCell ⟨g,n*2+1,none⟩ (.int .i64 t2)).alloc (O7 t1 t2)).cell? ⟨k,2,none⟩=some (.slice (some ⟨g,0,none⟩) b2.lo.length lc):=(Bb hSA.blk 2).trans rfl;clear hsz TS;have hgk:g≠k:=fun e=>h1.nk.1 (by rw[e];rfl);have hg1:g<w1.heap.size:=(h1.lo.lt g rfl).2;have TA:=Be w1 (O7 t1 t2);have p0:(w1.alloc (O7 t1 t2)).cell? ⟨w1.heap.size,0,none⟩=some (.int .i64 t1):=(Bb TA 0).trans rfl;have p1:(w1.alloc (O7 t1 t2)).cell? ⟨w1.heap.size,1,none⟩=some (.int .i64 t2):=(Bb TA 1).trans rfl;have d2:(w1.alloc (O7 t1 t2)).cell? ⟨k,2,none⟩=some (.slice (some ⟨g,0,none⟩) b2.lo.length lc):=(Bb h2.blk 2).trans rfl;go_wp2
 go_region_held3 (fun w'=>w'.cell? ⟨k,2,none⟩=some (.slice (some ⟨g,0,none⟩) b2.lo.length lc)/\w'.cell? ⟨w1.heap.size,0,none⟩=some (.int .i64 t1)/\w'.cell? ⟨w1.heap.size,1,none⟩=some (.int .i64 t2))
  (first|exact⟨d2,p0,p1⟩|exact⟨s2,s0,s1⟩)
  (fail)
 go_wp2;go_end0;exact⟨rfl,_,hSA.drew,(((hG1.trans hS.2).alloc _).drew)⟩
def Hn (a b:Int × Int)(l:TP)(m:Nat):List (Int × Int):=Ci a b (l.take m)++l.drop m
def Bay(a b:Int×Int)(l:TP):Hn a b l 0=l:=by simp[Hn,Ci]
def Bc5(a b:Int×Int)(l:TP):Hn a b l l.length=Ci a b l:=by simp[Hn]
def Ys(a b:Int×Int)(l:TP)(m:Nat):(Hn a b l m).length=l.length:=by
 simp only[Hn,Ws,Jl,Btr,Bv9];omega
def Yt(a b:Int×Int)(l:TP)(m:Nat)(c:m<l.length)(h:m<(Hn a b l m).length):(Hn a b l m)[m]=l[m]:=by
 have e:(Ci a b (l.take m)).length=m:=by rw[Jl];simp;omega
 simp only[Hn];rw[Bv6 Ck];simp[e]
def Wm(a b:Int×Int)(l:TP)(m:Nat)(c:m<l.length):Hn a b l (m+1)=(Hn a b l m).set m (if l[m]=a then b else l[m]):=by
 have e:(Ci a b (l.take m)).length=m:=by rw[Jl];simp;omega
 simp only[Hn];rw[Xi a b l m c,Bs9 _ _ Ck,e,Bus,Bsi,Brj c];rfl
def Baz(a b:Int×Int)(l:TP)(m:Nat)(c:m<l.length)(h:l[m]≠a):Hn a b l (m+1)=Hn a b l m:=by
 rw[Wm a b l m c,Pk h];have e:m<(Hn a b l m).length:=by rw[Ys];exact c
 conv=>lhs;arg 3;rw[<- Yt a b l m c e]
 exact List.set_getElem_self e
def Aj(w:TW)(B k:Nat)(c:BnC)(v:FrV)(b:Dv)(F G f j:Int)(h:Ea w B k c v b):Calls prog 267 #[.q k 0,.agg #[.i F,.i G],.agg #[.i f,.i j]] w fun e N=>e=.r (.tuple #[])/\∃v',Ea N B k c v' (K5 (F,G) (f,j) b)/\Bn k w v N v':=by
 obtain⟨A,D,br⟩:=b;unfold K5;simp only;obtain⟨la,ln,O,sa,sn,Q⟩:=v;obtain⟨xa,xc,b0⟩:=Bh h.lo;simp only[Value.slice.injEq]at b0;obtain⟨rfl,b2,rfl⟩:=b0;subst b2;obtain⟨xa,xc,b0⟩:=Bh h.st;simp only[Value.slice.injEq]at b0;obtain⟨rfl,b2,rfl⟩:=b0;subst b2;have h0:=(h.alloc (O7 F G)).alloc (O7 f j);have G0:=((Bn.refl k w ⟨la,A.length,O,sa,D.length,Q⟩).alloc (O7 F G)).alloc (O7 f j);have O0:=Cb w (O7 F G) (O7 f j);have N0:=Bx w (O7 F G) (O7 f j);have b5:=h.ll;have b6:=h.sl;have c5:=h.k_lt;have b7:∀g,la=some ⟨g,0,none⟩->g<w.heap.size:=fun g e=>(h.lo.lt g (by subst e;rfl)).2;have b8:∀g,sa=some ⟨g,0,none⟩->g<w.heap.size:=fun g e=>(h.st.lt g (by subst e;rfl)).2;have c2:=Bb h0.blk 2;simp at c2;simp only at b5 b6;go_in;go_wp2
 go_loopw [15] (fun s wr=>∃m:Nat,m<=A.length/\s=.i (m:Int)/\Ea wr B k c ⟨la,A.length,O,sa,D.length,Q⟩ ⟨Hn (F,G) (f,j) A m,D,br⟩/\Bn k w ⟨la,A.length,O,sa,D.length,Q⟩ wr ⟨la,A.length,O,sa,D.length,Q⟩/\wr.heap[w.heap.size]?=some (O7 F G)/\wr.heap[w.heap.size+1]?=some (O7 f j))
  (fun s _=>A.length-(intOf s).toNat)
 case atStart=>exact⟨0,Ck,rfl,by rw[Bay];exact h0,G0,O0,N0⟩
 case round=>
  clear h0 G0 O0 N0 c2;obtain⟨m,hm,rfl,z,V,J,I⟩:=hrel;have lO:=Sp J;have lN:=Sp I;by_cases Y:m<A.length
  ·have a5:m<(Hn (F,G) (f,j) A m).length:=by rw[Ys];exact Y
   have Z:=Yt (F,G) (f,j) A m Y a5;have K:=Wm (F,G) (f,j) A m Y;have L:=Baz (F,G) (f,j) A m Y;obtain⟨g,hg,b9,c0,y0,y1,z0,z1,-⟩:=Sm z.lo a5 f j;subst hg;have c1:=b7 g rfl;rw[Z]at y0 y1;generalize A[m]=x at *;obtain⟨l,t⟩:=x;simp only at y0 y1;have d2:=Bb z.blk 2;have lK:=z.k_lt;obtain⟨o0,o1⟩:=cl2 J;obtain⟨q0,q1⟩:=cl2 I;simp at d2 o0 o1 q0 q1;have kb:(m:Int)<(A.length:Int):=Ck;by_cases a3:l=F
   ·subst a3;by_cases a4:t=G
    ·subst a4;rw[Th rfl]at K;have hS:=z.setLo (g:=g) (q:=m) rfl a5 f j;rw[<- K]at hS;have b1:=hS.1.alloc (O7 l t);have b3:((wr.setCell (.a g (m*2)) (.i f)).setCell (.a g (m*2+1)) (.i j)).heap.size=wr.heap.size:=by simp[World.setCell]
     have b4:((wr.setCell (.a g (m*2)) (.i f)).setCell (.a g (m*2+1)) (.i j)).heap[w.heap.size]?=_:=((Dg Ck).trans (Dg Ck)).trans J;have a6:((wr.setCell (.a g (m*2)) (.i f)).setCell (.a g (m*2+1)) (.i j)).heap[w.heap.size+1]?=_:=((Dg Ck).trans (Dg Ck)).trans I;have a0:(wr.alloc (O7 l t)).C (w.heap.size+1) 0 (.i f):=(Bb (Bg I (O7 l t)) 0).trans rfl;have a1:(wr.alloc (O7 l t)).C (w.heap.size+1) 1 (.i j):=(Bb (Bg I (O7 l t)) 1).trans rfl;have a2:(wr.alloc (O7 l t)).C k 2 (.s (.p g) A.length O):=(Bb (z.alloc (O7 l t)).blk 2).trans rfl;have s0:(((wr.setCell (.a g (m*2)) (.i f)).setCell (.a g (m*2+1)) (.i j)).alloc (O7 l t)).C (w.heap.size+1) 0 (.i f):=(Bb (Bg a6 (O7 l t)) 0).trans rfl;have s1:(((wr.setCell (.a g (m*2)) (.i f)).setCell (.a g (m*2+1)) (.i j)).alloc (O7 l t)).C (w.heap.size+1) 1 (.i j):=(Bb (Bg a6 (O7 l t)) 1).trans rfl;have s2:(((wr.setCell (.a g (m*2)) (.i f)).setCell (.a g (m*2+1)) (.i j)).alloc (O7 l t)).C k 2 (.s (.p g) A.length O):=(Bb b1.blk 2).trans rfl;clear K L Z b3;go_wp2
     go_region_held3 (fun N=>N.C k 2 (.s (.p g) A.length O)/\N.C (w.heap.size+1) 0 (.i f)/\N.C (w.heap.size+1) 1 (.i j)) (first|exact⟨a2,a0,a1⟩|exact⟨s2,s0,s1⟩) (fail)
     go_wp2;go_roundw
     case rel=>exact⟨m+1,Ck,Mg,b1.drew,(((V.trans hS.2).alloc _).drew),Bg b4 _,Bg a6 _⟩
     case measure=>simp[intOf];omega
    have c3:(t==G)=false:=by simp[a4]
    rw[<- L (by simp;exact a4)]at z;have a7:=z.alloc (O7 l t);have a8:=Bg J (O7 l t);have a9:=Bg I (O7 l t);clear K L Z a4;go_wp2;go_roundw
    case rel=>exact⟨m+1,Ck,Mg,a7,V.alloc _,a8,a9⟩
    case measure=>simp[intOf];omega
   have c4:(l==F)=false:=by simp[a3]
   rw[<- L (by simp;intro e;exact absurd e a3)]at z;have a7:=z.alloc (O7 l t);have a8:=Bg J (O7 l t);have a9:=Bg I (O7 l t);clear K L Z a3;go_wp2;go_roundw
   case rel=>exact⟨m+1,Ck,Mg,a7,V.alloc _,a8,a9⟩
   case measure=>simp[intOf];omega
  obtain rfl:m=A.length:=Ck;rw[Bc5]at z;have kb:¬(A.length:Int)<(A.length:Int):=Ck;have c2:=Bb z.blk 3;simp at c2;have h0:=z;have G0:=V;have O0:=J;have N0:=I;clear z V J I lO lN;go_wp2
  go_loopw [36] (fun s wr=>∃m:Nat,m<=D.length/\s=.i (m:Int)/\Ea wr B k c ⟨la,A.length,O,sa,D.length,Q⟩ ⟨Ci (F,G) (f,j) A,Hn (F,G) (f,j) D m,br⟩/\Bn k w ⟨la,A.length,O,sa,D.length,Q⟩ wr ⟨la,A.length,O,sa,D.length,Q⟩/\wr.heap[w.heap.size]?=some (O7 F G)/\wr.heap[w.heap.size+1]?=some (O7 f j))
   (fun s _=>D.length-(intOf s).toNat)
  case atStart=>exact⟨0,Ck,rfl,by rw[Bay];exact h0,G0,O0,N0⟩
  case round=>
   clear h0 G0 O0 N0 c2;obtain⟨m,hm,rfl,z,V,J,I⟩:=hrel;have lO:=Sp J;have lN:=Sp I;by_cases Y:m<D.length
   ·have a5:m<(Hn (F,G) (f,j) D m).length:=by rw[Ys];exact Y
    have Z:=Yt (F,G) (f,j) D m Y a5;have K:=Wm (F,G) (f,j) D m Y;have L:=Baz (F,G) (f,j) D m Y;obtain⟨g,hg,b9,c0,y0,y1,z0,z1,-⟩:=Sm z.st a5 f j;subst hg;have c1:=b8 g rfl;rw[Z]at y0 y1;generalize D[m]=x at *;obtain⟨l,t⟩:=x;simp only at y0 y1;have d2:=Bb z.blk 3;have lK:=z.k_lt;obtain⟨o0,o1⟩:=cl2 J;obtain⟨q0,q1⟩:=cl2 I;simp at d2 o0 o1 q0 q1;have kb:(m:Int)<(D.length:Int):=Ck;by_cases a3:l=F
    ·subst a3;by_cases a4:t=G
     ·subst a4;rw[Th rfl]at K;have hS:=z.setSt (g:=g) (q:=m) rfl a5 f j;rw[<- K]at hS;have b1:=hS.1.alloc (O7 l t);have b3:((wr.setCell (.a g (m*2)) (.i f)).setCell (.a g (m*2+1)) (.i j)).heap.size=wr.heap.size:=by simp[World.setCell]
      have b4:((wr.setCell (.a g (m*2)) (.i f)).setCell (.a g (m*2+1)) (.i j)).heap[w.heap.size]?=_:=((Dg Ck).trans (Dg Ck)).trans J;have a6:((wr.setCell (.a g (m*2)) (.i f)).setCell (.a g (m*2+1)) (.i j)).heap[w.heap.size+1]?=_:=((Dg Ck).trans (Dg Ck)).trans I;have a0:(wr.alloc (O7 l t)).C (w.heap.size+1) 0 (.i f):=(Bb (Bg I (O7 l t)) 0).trans rfl;have a1:(wr.alloc (O7 l t)).C (w.heap.size+1) 1 (.i j):=(Bb (Bg I (O7 l t)) 1).trans rfl;have a2:(wr.alloc (O7 l t)).C k 3 (.s (.p g) D.length Q):=(Bb (z.alloc (O7 l t)).blk 3).trans rfl;have s0:(((wr.setCell (.a g (m*2)) (.i f)).setCell (.a g (m*2+1)) (.i j)).alloc (O7 l t)).C (w.heap.size+1) 0 (.i f):=(Bb (Bg a6 (O7 l t)) 0).trans rfl;have s1:(((wr.setCell (.a g (m*2)) (.i f)).setCell (.a g (m*2+1)) (.i j)).alloc (O7 l t)).C (w.heap.size+1) 1 (.i j):=(Bb (Bg a6 (O7 l t)) 1).trans rfl;have s2:(((wr.setCell (.a g (m*2)) (.i f)).setCell (.a g (m*2+1)) (.i j)).alloc (O7 l t)).C k 3 (.s (.p g) D.length Q):=(Bb b1.blk 3).trans rfl;clear K L Z b3;go_wp2
      go_region_held3 (fun N=>N.C k 3 (.s (.p g) D.length Q)/\N.C (w.heap.size+1) 0 (.i f)/\N.C (w.heap.size+1) 1 (.i j)) (first|exact⟨a2,a0,a1⟩|exact⟨s2,s0,s1⟩) (fail)
      go_wp2;go_roundw
      case rel=>exact⟨m+1,Ck,Mg,b1.drew,(((V.trans hS.2).alloc _).drew),Bg b4 _,Bg a6 _⟩
      case measure=>simp[intOf];omega
     have c3:(t==G)=false:=by simp[a4]
     rw[<- L (by simp;exact a4)]at z;have a7:=z.alloc (O7 l t);have a8:=Bg J (O7 l t);have a9:=Bg I (O7 l t);clear K L Z a4;go_wp2;go_roundw
     case rel=>exact⟨m+1,Ck,Mg,a7,V.alloc _,a8,a9⟩
     case measure=>simp[intOf];omega
    have c4:(l==F)=false:=by simp[a3]
    rw[<- L (by simp;intro e;exact absurd e a3)]at z;have a7:=z.alloc (O7 l t);have a8:=Bg J (O7 l t);have a9:=Bg I (O7 l t);clear K L Z a3;go_wp2;go_roundw
    case rel=>exact⟨m+1,Ck,Mg,a7,V.alloc _,a8,a9⟩
    case measure=>simp[intOf];omega
   obtain rfl:m=D.length:=Ck;rw[Bc5]at z;have kb:¬(D.length:Int)<(D.length:Int):=Ck;clear lO lN;go_wp2;go_end0;exact⟨rfl,_,z,V⟩
def Ky(w:TW)(B k:Nat)(c:BnC)(v:FrV)(b:Dv)(h:Ea w B k c v b):Calls prog 274 #[.q k 0] w fun e p=>∃u:FrV,e=.r (.tuple #[u.val,.bool (Ew b).isSome])/\(∀y,Ew b=some y->u=v/\y=⟨b.lo,b.st⟩)/\Ea p B k c v b/\Bn k w v p v:=by
 have L:=h.k_lt;have N:=h.B_le;have O:=h.new (Bru _);have z:=Bb h.blk 2;have A:=Bb h.blk 3;have D:=Bb h.blk 5;simp at z A D;obtain⟨Q,V,F⟩:=b;obtain⟨f,g,i,j,l,m⟩:=v;simp only at z A D;have Y:=Be w (O23 none 0 0 none 0 0);cases F with
 | true =>
  rw[Uw rfl];go_in;go_wp2;refine tb (.tuple #[.agg #[.s none 0 0,.s none 0 0],.bool false]) (by simp[results,results274,go_sem]) ?_;exact⟨⟨none,0,0,none,0,0⟩,rfl,fun y t=>by simp at t,h.alloc _,(Bn.refl _ _ _).alloc _⟩
 | false =>
  rw[Bqa rfl];have G:(w.alloc (O23 none 0 0 none 0 0)).C k 2 (.s f g i):=(Bb (h.alloc (O23 none 0 0 none 0 0)).blk 2).trans rfl;have I:(w.alloc (O23 none 0 0 none 0 0)).C k 3 (.s j l m):=(Bb (h.alloc (O23 none 0 0 none 0 0)).blk 3).trans rfl;have J:(w.alloc (O23 f g i j l m)).C k 2 (.s f g i):=(Bb (h.alloc (O23 f g i j l m)).blk 2).trans rfl;have K:(w.alloc (O23 f g i j l m)).C k 3 (.s j l m):=(Bb (h.alloc (O23 f g i j l m)).blk 3).trans rfl;go_in;go_wp2
  go_region_held3 (fun p=>p.C k 2 (.s f g i)/\p.C k 3 (.s j l m)) (first|exact⟨G,I⟩|exact⟨J,K⟩) (fail)
  go_wp2;refine tb (.tuple #[.agg #[.s f g i,.s j l m],.bool true]) (by simp[results,results274,go_sem]) ?_;exact⟨⟨f,g,i,j,l,m⟩,rfl,fun y t=>⟨rfl,(Option.some.inj t).symm⟩,(h.alloc _).drew,((Bn.refl _ _ _).alloc _).drew⟩
def Ag(l:TP)(a:TA)(n c:Nat)(w:TW)(p:l.length<=10000)(h:TyR w (.s a n c) l):Calls prog 289 #[.s a n c] w fun e f=>∃b vc,e=.r (.s b l.length vc)/\Cq f w.heap.size (.s b l.length vc) l/\Bl w f:=by
 go_in;go_wp2_with (at_builtin;refine Jo rfl _ _ rfl w.heap.size _ [] l a n c rfl (Brw _ _ _ _) rfl h Fr (Bru _) ?_)
 intro q t g i;obtain⟨b,vc,rfl⟩:=Bh g;go_wp2;go_ret;exact⟨b,vc,rfl,g,(Brm _ _).grown i (Bru _) (fun j m=>by cases m)⟩
theorem Bod{w:World}{u b:Nat}{g c e f:Option Addr}{t O h i l m p q:Nat}{j z:TypeId}(s:w.heap[u]?=some (.cells #[.slice g t O,.slice c h i] j (0,0)))(v:w.heap[b]?=some (.cells #[.slice e l m,.slice f p q] z (0,0))):w.cell? ⟨u,0,none⟩=some (.slice g t O)/\w.cell? ⟨u,1,none⟩=some (.slice c h i)/\w.cell? ⟨b,0,none⟩=some (.slice e l m)/\w.cell? ⟨b,1,none⟩=some (.slice f p q):=by
 refine⟨?_,?_,?_,?_⟩
 ·rw[Bb s];rfl
 ·rw[Bb s];rfl
 ·rw[Bb v];rfl
 rw[Bb v];rfl
def Sy{u b t n:Nat}{j:TypeId}{l:TX}{e:TV}{w:TW}(h:w.ownsRow u j t l n e)(i:b<=u):w.ownsRow b j t l n e:=by
 obtain⟨f,m|⟨g,p,q,a,c,d,r⟩⟩:=h
 ·exact⟨f,.inl m⟩
 exact⟨f,.inr ⟨g,p,q,a,Br5 i c,d,r⟩⟩
def Beh(c:BnC)(v:FrV)(x:Bf)(w:TW)(D:v.is x w):Calls prog 262 #[.agg #[.s (.p c.tg) c.T.length c.tc,.s c.ya c.yn c.yc],v.val,.i c.hi] w fun e b=>∃u:FrV, e=.r (.agg #[.s (.p c.tg) c.T.length c.tc,.s c.ya c.yn c.yc,.s u.la u.ln u.lc,.s u.sa u.sn u.sc,.i c.hi,.bool false])/\Cq b w.heap.size u.lv x.locals/\Cq b w.heap.size u.sv x.stack/\(∀j,u.lv.ownBlock=some j->u.sv.ownBlock≠some j)/\Bl w b:=by
 have a0:=fun b (h:Bl w b)=>Ag x.locals v.la v.ln v.lc b (by have:=D.hl;omega) (D.lo.below h);have a1:=fun b (h:Bl w b)=>Ag x.stack v.sa v.sn v.sc b (by have:=D.hs;omega) (D.st.below h);obtain⟨m,q,t,z,A,B⟩:=v;simp only[FrV.val]at a0 a1 ⊢;have b2:=Bc a0;have b3:=Bc a1;clear a0 a1 D;have I:=Em w (O2 (.p c.tg) c.T.length c.tc c.ya c.yn c.yc) (O23 m q t z A B) (O22 none 0 0 none 0 0 none 0 0 none 0 0 0 false);obtain⟨J,K,Z0⟩:=Nz w (O2 (.p c.tg) c.T.length c.tc c.ya c.yn c.yc) (O23 m q t z A B) (O22 none 0 0 none 0 0 none 0 0 none 0 0 0 false);have t0:(((w.alloc (O2 (.p c.tg) c.T.length c.tc c.ya c.yn c.yc)).alloc (O23 m q t z A B)).alloc (O22 none 0 0 none 0 0 none 0 0 none 0 0 0 false)).C w.heap.size 0 (.s (.p c.tg) c.T.length c.tc):=(Bb J 0).trans rfl;have t1:(((w.alloc (O2 (.p c.tg) c.T.length c.tc c.ya c.yn c.yc)).alloc (O23 m q t z A B)).alloc (O22 none 0 0 none 0 0 none 0 0 none 0 0 0 false)).C w.heap.size 1 (.s c.ya c.yn c.yc):=(Bb J 1).trans rfl;have x0:(((w.alloc (O2 (.p c.tg) c.T.length c.tc c.ya c.yn c.yc)).alloc (O23 m q t z A B)).alloc (O22 none 0 0 none 0 0 none 0 0 none 0 0 0 false)).C (w.heap.size+1) 0 (.s m q t):=(Bb K 0).trans rfl;have x1:(((w.alloc (O2 (.p c.tg) c.T.length c.tc c.ya c.yn c.yc)).alloc (O23 m q t z A B)).alloc (O22 none 0 0 none 0 0 none 0 0 none 0 0 0 false)).C (w.heap.size+1) 1 (.s z A B):=(Bb K 1).trans rfl;have lT:=Sp J;have lX:=Sp K;go_in;go_wp2
 go_region_held3 (fun b=>b.C w.heap.size 0 (.s (.p c.tg) c.T.length c.tc)/\b.C w.heap.size 1 (.s c.ya c.yn c.yc)/\b.C (w.heap.size+1) 0 (.s m q t)/\b.C (w.heap.size+1) 1 (.s z A B))
  (exact Bod (by repeat (first|(with_reducible refine(Dg Ck).trans ?_)|(with_reducible refine stay L ?_)|(with_reducible refine stay F ?_)|exact J)) (by repeat (first|(with_reducible refine(Dg Ck).trans ?_)|(with_reducible refine stay L ?_)|(with_reducible refine stay F ?_)|exact K)))
  (first|(go_at_call 289;refine(Ba b2 _ (by first|exact I.drew|exact a2)).mono ?_;rintro e w5 ⟨a3,a4,rfl,a9,L⟩;have a5:Bl w w5:=(fun G=>Below.trans G (L.mono (Below.size G))) (by first|exact I.drew|exact a2);have f:=stay L (by first|exact Z0|exact g);have N:=Bb f 0;have q0:=Bk f 0;have O:=Bb f 1;have q1:=Bk f 1;have Q:=Bb f 2;have q2:=Bk f 2;have V:=Bb f 3;have q3:=Bk f 3;have Y:=Bb f 4;have q4:=Bk f 4;have Z:=Bb f 5;have q5:=Bk f 5;simp at N O Q V Y Z)|(go_at_call 289;refine(Ba b3 _ (by first|exact I.drew|exact a5)).mono ?_;rintro e w6 ⟨a6,a7,rfl,b0,F⟩;have a2:Bl w w6:=(fun G=>Below.trans G (F.mono (Below.size G))) (by first|exact I.drew|exact a5);have g:=stay F (by first|exact Z0|exact f);have N:=Bb g 0;have q0:=Bk g 0;have O:=Bb g 1;have q1:=Bk g 1;have Q:=Bb g 2;have q2:=Bk g 2;have V:=Bb g 3;have q3:=Bk g 3;have Y:=Bb g 4;have q4:=Bk g 4;have Z:=Bb g 5;have q5:=Bk g 5;simp at N O Q V Y Z))
 have a8:∀j,(Value.slice a3 x.locals.length a4).ownBlock=some j->w.heap.size+3<=j/\j<w5.heap.size:=fun j l=>by
  have:=a9.lt j l;simp at this;omega
 have b1:∀j,(Value.slice a6 x.stack.length a7).ownBlock=some j->w5.heap.size<=j:=fun j l=>(b0.lt j l).1;have b4:=a5.size;have lZ:=Sp f;have lr:=Sp g;go_wp2_with fail;refine tb (.agg #[.s (.p c.tg) c.T.length c.tc,.s c.ya c.yn c.yc,.s a3 x.locals.length a4,.s a6 x.stack.length a7,.i c.hi,.bool false]) (by simp[results,results262,go_sem,N,O,Q,V,Y,Z]) ?_;refine⟨⟨a3,x.locals.length,a4,a6,x.stack.length,a7⟩,rfl,?_,?_,fun j l b5=>?_,?_⟩
 ·refine Js (Sy (Js a9 (fun j l=>F.block j (a8 j l).2)) Fr) (fun j l=>?_);have:=a8 j l
  repeat (with_reducible refine(Dg Ck).trans ?_)
  rfl
 ·refine Js (Sy b0 b4) (fun j l=>?_);have:=b1 j l
  repeat (with_reducible refine(Dg Ck).trans ?_)
  rfl
 ·have:=a8 j l;have:=b1 j b5;omega
 repeat (with_reducible refine Bry ?_ Fr _)
 exact a2
def Sh(w:TW):Calls prog 291 #[] w fun e b=>e=.r (.agg #[.i 1,.i 0])/\Bl w b:=by
 go_in;go_wp2;refine tb (.agg #[.i 1,.i 0]) (by simp[results,results291,go_sem]) ?_;exact⟨rfl,by repeat (first|refine Bry ?_ Hd _|refine Bs4 ?_ Hd _|exact Brm _ _)⟩
def Bjm(w:TW):Calls prog 295 #[] w fun e b=>e=.r (.agg #[.i 2,.i 0])/\Bl w b:=by
 go_in;go_wp2;refine tb (.agg #[.i 2,.i 0]) (by simp[results,results295,go_sem]) ?_;exact⟨rfl,by repeat (first|refine Bry ?_ Hd _|refine Bs4 ?_ Hd _|exact Brm _ _)⟩
def Ma(c:Int)(w:TW):Calls prog 165 #[.i c] w fun e b=>e=.r (.agg #[.i 3,.i c])/\Bl w b:=by
 go_in;go_wp2;refine tb (.agg #[.i 3,.i c]) (by simp[results,results165,go_sem]) ?_;exact⟨rfl,by repeat (first|refine Bry ?_ Hd _|refine Bs4 ?_ Hd _|exact Brm _ _)⟩
def Bc1(c:Int)(w:TW):Calls prog 268 #[.i c] w fun e b=>e=.r (.agg #[.i 4,.i c])/\Bl w b:=by
 go_in;go_wp2;refine tb (.agg #[.i 4,.i c]) (by simp[results,results268,go_sem]) ?_;exact⟨rfl,by repeat (first|refine Bry ?_ Hd _|refine Bs4 ?_ Hd _|exact Brm _ _)⟩
def Bie (a:TA)(n B:Nat):Prop:=∀g o,a=some ⟨g,o,none⟩->n<=g\/g<B
def Zp(m:PM)(w:TW):Calls prog 294 #[m.val] w fun e i=>∃a c,e=.r (.s a (Ds (m.r1,m.r2)).length c)/\TyR i (.s a (Ds (m.r1,m.r2)).length c) (Ds (m.r1,m.r2))/\Bie a w.heap.size 0/\Bl w i:=by
 obtain⟨j,l,p,q,t,b,f,v,z,A,cn,B,C,D,F,G,I,J⟩:=m;simp only[PM.val];unfold Ds;by_cases h:b=0;·subst h;simp only[Bv7];go_in;go_wp2;go_ret;exact⟨none,0,rfl,TyR.nil _,fun g o e=>(by cases e),QN _⟩
 have N:(b==0)=false:=by simp[h]
 simp only[h,Btv];have K:=Bu w (O18 j l p q t b f v z A cn B C D F G I J) (O7 b f);have L:=TyR.new1 (w.alloc (O18 j l p q t b f v z A cn B C D F G I J)) b f;clear h;go_in;go_wp2;go_ret;exact⟨some ⟨w.heap.size+1,0,none⟩,1,rfl,by simpa using L,fun g o e=>(by simp at e;omega),K⟩
structure Ru(b:PBd)(w:World)(bb:Nat)(lm:List (Rd.Mth × Ex))(fl:List (Value × List (Int × Int))):Prop where
 ml:b.fl2=lm.length
 m6:lm.length<=1000
 ms:Eb w bb (.slice b.fa2 b.fl2 b.fc2) lm
 yl:b.yn=fl.length
 y14:fl.length<=14
 yf:∀p∈fl,p.2.length<=1000
 fs:Lx w bb (.slice b.ya b.yn b.yc) fl
 tl:b.T.length<=1000
 tr:Dy w b.tg b.T
 ll:b.L.length<=100000
 ins:Jz w bb (.slice b.la b.L.length b.lc) b.L
def Ru.below{b:PBd}{w s:TW}{u:Nat}{T:List (Rd.Mth×Ex)}{f:List (Value×List (Int×Int))}(h:Ru b w u T f)(c:Bl w s):Ru b s u T f :=
 ⟨h.ml,h.m6,h.ms.kp (Kp.of_below (e:=none) c) Fm Fm Fm Fm Fm,h.yl,h.y14,h.yf,h.fs.below c,h.tl,h.tr.below c,h.ll,h.ins.kp (Kp.of_below (e:=none) c) Fm⟩
theorem Eb.mth2{w:World}{u:Nat}{a:Option Addr}{n t:Nat}{T:List (Rd.Mth×Ex)}(h:Eb w u (.slice a n t) T){k:Nat}(A:k<T.length):∃(m:PM) (g:Nat),a=some ⟨g,0,none⟩/\g<w.heap.size/\(∀j v,m.list[j]?=some v->w.cell? ⟨g,k*10+j,none⟩=some v)/\m.is T[k].1 w u/\(.slice m.pa m.pl m.pc:Value)=T[k].2.params:=by
 obtain⟨B,I⟩:=h;obtain⟨xa,xc,C⟩:=Bh B;simp only[Value.slice.injEq]at C;obtain⟨rfl,rfl,rfl⟩:=C;obtain⟨g,J,K,_,L⟩:=Cf B Ck;obtain⟨f,i,p,q,D,s⟩:=I _ (Brn A);have F:=fun j z=>Bqg T k A j z;generalize T[k]=x at *;obtain⟨x,e⟩:=x;obtain⟨up,uc,uh,um⟩:=e;simp only at f i p s F;obtain⟨N,O,rfl⟩:=Bh f;obtain⟨Q,V,rfl⟩:=Bh i;obtain⟨Y,Z,rfl⟩:=Bh p;obtain⟨ma,mc,rfl⟩:=Bh s.1;have a0:q.length=x.maps.length:=by rw[<- D];simp
 refine⟨⟨x.cl,x.name,N,x.params.length,O,x.result.1,x.result.2,x.locals,x.stack,Q,x.code.length,V,Y,x.handlers.length,Z,ma,q.length,mc⟩,g,J,K,?_,⟨rfl,rfl,rfl,rfl,rfl,rfl,rfl,f,rfl,i,rfl,p,a0,q,D,s⟩,rfl⟩;intro j v G;have z:j<10:=by
  have:=(List.getElem?_eq_some_iff.1 G).1;simpa[PM.list] using this
 obtain⟨e1,e2⟩:=F j z;rw[L _ e2,e1,<- G];rfl
def Zo(b:PBd)(j:Nat)(c:List (Rd.Mth×Ex))(fl:List (Value×List (Int×Int)))(n:Nat)(w:TW)(h:Ru b w j c fl)(hn:n<c.length):Calls prog 293 #[b.val,.i (n:Int)] w fun e l=>∃m:PM,e=.returned m.val/\m.is c[n].1 l j/\(.s m.pa m.pl m.pc:TX)=c[n].2.params/\Bl w l:=by
 obtain⟨q,g,p,a1,Ev,hq,f⟩:=h.ms.mth2 hn;obtain⟨y0,y1,y2,y3,y4,y5,y6,y7,y8,y9⟩:=T5 Ev;have t:=h.ml;have v:=h.yl;obtain⟨a2,a3,a4,a5,a6,a7,tg,tc,ya,yn,yc,cl,nm,pa,pl,pc,r1,r2,lo,st,ca,cn,cc,ha,hl,hc,ma,ml,mc,la,lc,T,L⟩:=b;simp only at t v p;subst t v p;simp only[PBd.val];generalize c[n]=x at *;have kb:(n:Int)<(c.length:Int):=Ck;have a8:¬(n:Int)<0:=Ck;obtain⟨z,A,B,C,D,F,G,I,J,K,N,O,Q,V,Y,Z,qh,qi⟩:=q;simp only at y0 y1 y2 y3 y4 y5 y6 y7 y8 y9 f;have a0:=Bc f;clear Ev h f;go_in;go_wp2;refine tb (.agg #[.i z,.i A,.s B C D,.i F,.i G,.i I,.i J,.s K N O,.s Q V Y,.s Z qh qi]) (by simp[results,results293,go_sem]) ?_;exact⟨⟨z,A,B,C,D,F,G,I,J,K,N,O,Q,V,Y,Z,qh,qi⟩,rfl,hq.below (Bu _ _ _),Ba a0,Bu _ _ _⟩
def J4 (L:List Cd.Ins)(c place:Int):Bool:=(Cd.findAt place L).isSome&&((Cd.orZero (Cd.findAt place L)).op==15)&&((Cd.orZero (Cd.findAt place L)).n==c)
def Bha(b:PBd)(s:Nat)(z:List (Rd.Mth×Ex))(A:List (Value×List (Int×Int)))(j c:Int)(w:TW)(h:Ru b w s z A):Calls prog 290 #[b.val,.i j,.i c] w fun e l=>e=.r (.bool (J4 b.L c j))/\Bl w l:=by
 have p:=fun l (B:Bl w l)=>Bac b.L b.la b.lc s j l h.ll (h.below B).ins;unfold J4;generalize Cd.findAt j b.L=r at *;obtain⟨D,F,G,I,J,K,N,O,ya,yn,yc,Q,V,Y,Z,pc,r1,r2,lo,st,ca,cn,cc,ha,hl,hc,ma,ml,mc,la,lc,T,L⟩:=b;simp only[PBd.val]at p ⊢;have m:=Bc p;clear p h;cases r with
 | none =>
  go_in;go_wp2_with fail;refine Qm (Ba m _ (QN _)) ?_;intro t g;have f:=((Brm w.heap.size w).alloc (Bru _) _).trans (g.mono Hd);go_wp2;go_ret;exact⟨rfl,f.alloc f.size _⟩
 | some x =>
  obtain⟨xp,v,xn⟩:=x;simp only[Cd.orZero]at m ⊢;by_cases q:v=15;·subst q;go_in;go_wp2_with fail;refine Qm (Ba m _ (QN _)) ?_;intro t g;have f:=((Brm w.heap.size w).alloc (Bru _) _).trans (g.mono Hd);go_wp2;go_ret;exact⟨Hd,f.alloc f.size _⟩
  have C:(v==15)=false:=by simp[q]
  clear q;rw[C];go_in;go_wp2_with fail;refine Qm (Ba m _ (QN _)) ?_;intro t g;have f:=((Brm w.heap.size w).alloc (Bru _) _).trans (g.mono Hd);go_wp2;go_ret;exact⟨rfl,f.alloc f.size _⟩
def Hs (fs:List (List (Int × Int)))(ms:List Rd.Mth)(res:Int × Int)(op n:Int):List (Int × Int) :=
 if op=7\/op=8\/op=9\/op=10\/op=13 then [(1,0),(1,0)] else if op=12\/op=25 then [(1,0)] else if op=14\/op=19 then [(3,0)]
 else if op=17 then [(3,(J5 fs n).1)] else if op=18 then [(3,(J5 fs n).1),(J5 fs n).2]
 else if op=20 then (ms.getD n.toNat ⟨0,0,[],(0,0),0,0,[],[],[]⟩).params else if op=21 then (3,(ms.getD n.toNat ⟨0,0,[],(0,0),0,0,[],[],[]⟩).cl)::(ms.getD n.toNat ⟨0,0,[],(0,0),0,0,[],[],[]⟩).params
 else if op=22 then Ds res else if op=23 then [(3,1)] else []
def Gm (fs:List (List (Int × Int)))(ms:List Rd.Mth)(op n:Int):List (Int × Int) :=
 if op=0\/op=24\/op=7\/op=8\/op=9\/op=10 then [(1,0)] else if op=1 then [(2,0)] else if op=17 then [(J5 fs n).2]
 else if op=19 then [(3,n)] else if op=20\/op=21 then Ds (ms.getD n.toNat ⟨0,0,[],(0,0),0,0,[],[],[]⟩).result else []
def Bg5(b:PBd)(bb B:Nat)(f:List (Rd.Mth×Ex))(K:List (Value×List (Int×Int)))(pp op:Int)(n:Nat)(w:TW)(h:Ru b w bb f K)(hn:n<=100000)(hB:∀p∈f,∀g,p.2.params.ownBlock=some g->g<B)(a0:∀p∈f,p.1.params.length<=1000) (b6:op=20\/op=21->n<f.length):Calls prog 270 #[b.val,.agg #[.i pp,.i op,.i (n:Int)]] w fun e I=>∃a c,e=.r (.s a (Hs (K.map Prod.snd) (f.map Prod.fst) (b.r1,b.r2) op (n:Int)).length c)/\TyR I (.s a (Hs (K.map Prod.snd) (f.map Prod.fst) (b.r1,b.r2) op (n:Int)).length c) (Hs (K.map Prod.snd) (f.map Prod.fst) (b.r1,b.r2) op (n:Int))/\Bie a w.heap.size B/\Bl w I:=by
 have a4:=fun I (hb:Bl w I)=>Bbn (aa:=some ⟨b.tg,0,none⟩) (an:=b.T.length) (ac:=b.tc) K bb b.ya b.yc (n:Int) I (by have:=h.y14;omega) ⟨Ck,Ck⟩ h.yf (by have:=(h.below hb).fs;rw[h.yl]at this;exact this);have a7:=fun (A:n<f.length) I (hb:Bl w I)=>Zo b bb f K n I (h.below hb) A;have a8:=fun (m:PM) I=>Zp m I;have b7:=h.ml;have b8:=h.yl;have c6:=h.ms;obtain⟨a9,b0,b1,b2,f3,b3,tg,tc,ya,yn,yc,cl,nm,pa,pl,pc,r1,r2,lo,st,ca,cn,cc,ha,A,hc,ma,ml,mc,la,lc,T,L⟩:=b;simp only at b7 b8 c6;subst b7 b8;simp only[PBd.val,PM.val]at a4 a7 a8 ⊢;generalize a5:Hs (K.map Prod.snd) (f.map Prod.fst) (r1,r2) op (n:Int)=R;unfold Hs at a5;have a2:∀A:n<f.length,(f.map Prod.fst).getD ((n:Nat):Int).toNat ⟨0,0,[],(0,0),0,0,[],[],[]⟩=f[n].1:=fun A=>by simp[Vm,A]
 generalize J5 (K.map Prod.snd) (n:Int)=FD at *;obtain⟨fo,Y,Z⟩:=FD;simp only at a4 a5;have V:=Bc a5;have b9:=Bc a4;have c0:=Bc a7;have c7:=Bc a8;have c1:=Bc a2;have c8:=Bc hB;have c2:=Bc a0;have c3:=Bc b6;clear a4 a7 a8 a5 h a2 hB a0 b6;have F:=Bu w (O24 a9 b0 b1 b2 f.length b3 (.p tg) T.length tc ya K.length yc cl nm pa pl pc r1 r2 lo st ca cn cc ha A hc ma ml mc la L.length lc) (O15 pp op (n:Int));have U0:=Cb w (O24 a9 b0 b1 b2 f.length b3 (.p tg) T.length tc ya K.length yc cl nm pa pl pc r1 r2 lo st ca cn cc ha A hc ma ml mc la L.length lc) (O15 pp op (n:Int));have I0:=Bx w (O24 a9 b0 b1 b2 f.length b3 (.p tg) T.length tc ya K.length yc cl nm pa pl pc r1 r2 lo st ca cn cc ha A hc ma ml mc la L.length lc) (O15 pp op (n:Int));by_cases l:op=7\/op=8\/op=9\/op=10\/op=13
 ·rcases l with rfl|rfl|rfl|rfl|rfl
  all_goals
   have z:Hid (R=[(1,0),(1,0)]):=by unfold Hid;rw[<- Ba V];simp
   go_in;go_wp2_with fail;refine Qb (Sh _) F ?_;intro v N t;have G:=t.size;go_wp2_with fail;refine Qm (Sh _) ?_;intro J D;have O:=t.trans (D.mono G);have a1:=O.size;have Q:=O.alloc a1 (O20 1 0 1 0);go_wp2;go_ret;rw[Ba z];exact⟨some ⟨J.heap.size,0,none⟩,2,rfl,TyR.new2 J _ _ _ _,fun g o e=>(by simp at e;omega),Q⟩
 have n7:(op==7)=false:=Fr;have n8:(op==8)=false:=Fr;have n9:(op==9)=false:=Fr;have f4:(op==10)=false:=Fr;have f5:(op==13)=false:=Fr;have i7:¬(op=7\/op=8\/op=9\/op=10\/op=13):=l;clear l;by_cases l:op=12\/op=25
 ·rcases l with rfl|rfl
  all_goals
   have z:Hid (R=[(1,0)]):=by unfold Hid;rw[<- Ba V];simp
   go_in;go_wp2_with fail;refine Qb (Sh _) F ?_;intro v N t;have G:=t.size;have Q:=t.alloc G (O7 1 0);go_wp2;go_ret;rw[Ba z];exact⟨some ⟨v.heap.size,0,none⟩,1,rfl,TyR.new1 v _ _,fun g o e=>(by simp at e;omega),Q⟩
 have f6:(op==12)=false:=Fr;have f7:(op==25)=false:=Fr;have c9:¬(op=12\/op=25):=l;clear l;by_cases l:op=14\/op=19
 ·rcases l with rfl|rfl
  all_goals
   have z:Hid (R=[(3,0)]):=by unfold Hid;rw[<- Ba V];simp
   go_in;go_wp2_with fail;refine Qb (Ma 0 _) F ?_;intro v N t;have G:=t.size;have Q:=t.alloc G (O7 3 0);go_wp2;go_ret;rw[Ba z];exact⟨some ⟨v.heap.size,0,none⟩,1,rfl,TyR.new1 v _ _,fun g o e=>(by simp at e;omega),Q⟩
 have f8:(op==14)=false:=Fr;have f9:(op==19)=false:=Fr;have d0:¬(op=14\/op=19):=l;clear l;by_cases l:op=17
 ·subst l;have z:Hid (R=[(3,fo)]):=by unfold Hid;rw[<- Ba V];simp
  go_in;go_wp2_with fail;refine Qb (Ba b9 _ F) F ?_;intro v N t;have G:=t.size;go_wp2_with fail;refine Qm (Ma fo _) ?_;intro J D;have O:=(t.alloc G (O7 Y Z)).trans (D.mono Fr);have a1:=O.size;have Q:=O.alloc a1 (O7 3 fo);go_wp2;go_ret;rw[Ba z];exact⟨some ⟨J.heap.size,0,none⟩,1,rfl,TyR.new1 J _ _,fun g o e=>(by simp at e;omega),Q⟩
 have g0:(op==17)=false:=Fr;have d1:¬(op=17):=l;clear l;by_cases l:op=18
 ·subst l;have z:Hid (R=[(3,fo),(Y,Z)]):=by unfold Hid;rw[<- Ba V];simp
  go_in;go_wp2_with fail;refine Qb (Ba b9 _ F) F ?_;intro v N t;have G:=t.size;have TA:=Be v (O7 Y Z);have p0:(v.alloc (O7 Y Z)).C v.heap.size 0 (.i Y):=(Bb TA 0).trans rfl;have p1:(v.alloc (O7 Y Z)).C v.heap.size 1 (.i Z):=(Bb TA 1).trans rfl;have lT:=Sp TA;go_wp2
  go_region_held3 (fun I=>I.C v.heap.size 0 (.i Y)/\I.C v.heap.size 1 (.i Z)) (first|exact⟨p0,p1⟩|exact⟨QC D lT p0,QC D lT p1⟩|exact⟨QA (QL D lT) (QC D lT p0),QA (QL D lT) (QC D lT p1)⟩) (first|(go_at_call 165;refine(Ma fo _).mono ?_;rintro e J ⟨rfl,D⟩))
  have O:=(t.alloc G (O7 Y Z)).drew.trans (D.mono Fr);have a1:=O.size;have Q:=O.alloc a1 (O20 3 fo Y Z);go_wp2;go_ret;rw[Ba z];exact⟨some ⟨J.heap.size,0,none⟩,2,rfl,TyR.new2 J _ _ _ _,fun g o e=>(by simp at e;omega),Q⟩
 have g1:(op==18)=false:=Fr;have d2:¬(op=18):=l;clear l;by_cases l:op=20
 ·subst l;have A:=Ba c3 Hd;have a2:=Ba c1 A;have d3:=Ba c2 f[n] (Brn A);have z:Hid (R=f[n].1.params):=by unfold Hid;rw[<- Ba V];rw[a2];simp
  go_in;go_wp2_with fail;refine(Ba c0 A _ F).mono ?_;rintro e v ⟨q,rfl,hq,a6,N⟩;have t:=QB F N;have G:=t.size;have a0:=TyR.of_tys hq.ps;have a3:=hq.pl;have b4:=fun g=>Ba c8 f[n] (Brn A) g;rw[<- a6]at b4;obtain⟨q1,q2,q3,q4,q5,q6,q7,q8,q9,qa,qb,qc,qd,qe,qf,qg,qh,qi⟩:=q;simp only at a0 b4 a3;subst a3;clear hq a6;have g2:∀w:TW,(Instr.field 133 (.agg #[.i q1,.i q2,.s q3 f[n].1.params.length q5,.i q6,.i q7,.i q8,.i q9,.s qa qb qc,.s qd qe qf,.s qg qh qi]) 2).run prog w=.ok (.s q3 f[n].1.params.length q5) w:=fun _=>Lt;go_wp2;go_ret;rw[Ba z];exact⟨q3,q5,rfl,a0,fun g o e=>(by subst e;exact Or.inr (b4 g rfl)),t⟩
 have g3:(op==20)=false:=Fr;have d4:¬(op=20):=l;clear l;by_cases l:op=21
 ·subst l;have A:=Ba c3 Hd;have a2:=Ba c1 A;have d3:=Ba c2 f[n] (Brn A);have z:Hid (R=(3,f[n].1.cl)::f[n].1.params):=by unfold Hid;rw[<- Ba V];rw[a2];simp
  go_in;go_wp2_with fail;refine(Ba c0 A _ F).mono ?_;rintro e v ⟨q,rfl,hq,a6,N⟩;have t:=QB F N;have G:=t.size;have a0:=TyR.of_tys hq.ps;have a3:=hq.pl;have c4:=hq.cl;obtain⟨q1,q2,q3,q4,q5,q6,q7,q8,q9,qa,qb,qc,qd,qe,qf,qg,qh,qi⟩:=q;simp only at a0 a3 c4;subst a3 c4;have MA:=Be v (O18 f[n].1.cl q2 q3 f[n].1.params.length q5 q6 q7 q8 q9 qa qb qc qd qe qf qg qh qi);have ma:=Bb MA 0;have mb:=Bb MA 2;have lM:=Sp MA;simp at ma mb;clear hq a6;go_wp2_with fail;refine Qm (Ma _ _) ?_;intro J D;have O:=(t.alloc G (O18 f[n].1.cl q2 q3 f[n].1.params.length q5 q6 q7 q8 q9 qa qb qc qd qe qf qg qh qi)).trans (D.mono Fr);have a1:=O.size;have M2:=stay D MA;have mc:=Bb M2 2;have g4:=Sp M2;simp at mc;have d5:=((a0.below (QN (O18 f[n].1.cl q2 q3 f[n].1.params.length q5 q6 q7 q8 q9 qa qb qc qd qe qf qg qh qi))).below D).below (QN (O7 3 f[n].1.cl));have c5:(J.alloc (O7 3 f[n].1.cl)).ownsRow w.heap.size 31 2 (.s (.p J.heap.size) 1 1) [((3:Int),f[n].1.cl)].length (Bp [((3:Int),f[n].1.cl)]):=⟨rfl,.inr ⟨J.heap.size,1,_,rfl,a1,Be J _,Hd,Pf,rfl,rfl⟩⟩;go_wp2_with (at_builtin;refine Jo rfl _ _ rfl w.heap.size _ [((3:Int),f[n].1.cl)] f[n].1.params q3 f[n].1.params.length q5 rfl c5 rfl d5 Fr Fr ?_)
  intro v' w3 b5 d6;obtain⟨va,vc,rfl⟩:=Bh b5;have d7:=(O.alloc a1 (O7 3 f[n].1.cl)).grown d6 Fr (fun j hj=>(c5.lt j hj).1);have d8:=fun j hj=>(b5.lt j hj).1;go_wp2;go_ret;rw[Ba z];exact⟨va,vc,Hd,by simpa using Gw b5 Hd,fun g o e=>(by subst e;exact Or.inl (d8 g rfl)),d7⟩
 have g5:(op==21)=false:=Fr;have d9:¬(op=21):=l;clear l;by_cases l:op=22
 ·subst l;have z:Hid (R=Ds (r1,r2)):=by unfold Hid;rw[<- Ba V];simp
  go_in;go_wp2_with fail;refine(Ba c7 ⟨cl,nm,pa,pl,pc,r1,r2,lo,st,ca,cn,cc,ha,A,hc,ma,ml,mc⟩ _).mono ?_;rintro e v ⟨a,c,rfl,ht,f0,N⟩;have t:=QB F N;go_wp2;go_ret;rw[Ba z];exact⟨a,c,rfl,ht,fun g o e=>(by have:=f0 g o e;simp at this;omega),t⟩
 have g6:(op==22)=false:=Fr;have f1:¬(op=22):=l;clear l;by_cases l:op=23
 ·subst l;have z:Hid (R=[(3,1)]):=by unfold Hid;rw[<- Ba V];simp
  go_in;go_wp2_with fail;refine Qb (Ma 1 _) F ?_;intro v N t;have G:=t.size;have Q:=t.alloc G (O7 3 1);go_wp2;go_ret;rw[Ba z];exact⟨some ⟨v.heap.size,0,none⟩,1,rfl,TyR.new1 v _ _,fun g o e=>(by simp at e;omega),Q⟩
 have g7:(op==23)=false:=Fr;have f2:¬(op=23):=l;clear l;have z:Hid (R=[]):=by unfold Hid;rw[<- Ba V];simp[i7,c9,d0,d1,d2,d4,d9,f1,f2]
 go_in;go_wp2;go_ret;rw[Ba z];exact⟨none,0,rfl,TyR.nil _,fun g o e=>(by cases e),F⟩
def Bex(b:PBd)(Z B:Nat)(f:List (Rd.Mth×Ex))(z:List (Value×List (Int×Int)))(Q op:Int)(n:Nat)(w:TW)(h:Ru b w Z f z)(hn:n<=100000)(hB:∀p∈f,∀g,p.2.params.ownBlock=some g->g<B)(a9:∀p∈f,p.1.params.length<=1000) (b0:op=20\/op=21->n<f.length):Calls prog 272 #[b.val,.agg #[.i Q,.i op,.i (n:Int)]] w fun e C=>∃a c,e=.r (.s a (Gm (z.map Prod.snd) (f.map Prod.fst) op (n:Int)).length c)/\TyR C (.s a (Gm (z.map Prod.snd) (f.map Prod.fst) op (n:Int)).length c) (Gm (z.map Prod.snd) (f.map Prod.fst) op (n:Int))/\Bie a w.heap.size B/\Bl w C:=by
 have V:=fun C (hb:Bl w C)=>Bbn (aa:=some ⟨b.tg,0,none⟩) (an:=b.T.length) (ac:=b.tc) z Z b.ya b.yc (n:Int) C (by have:=h.y14;omega) ⟨Ck,Ck⟩ h.yf (by have:=(h.below hb).fs;rw[h.yl]at this;exact this);have a0:=fun (t:n<f.length) C (hb:Bl w C)=>Zo b Z f z n C (h.below hb) t;have a1:=fun (m:PM) C=>Zp m C;have b1:=h.ml;have b2:=h.yl;have b4:=h.ms;obtain⟨a2,a3,a4,a5,d0,a6,tg,tc,ya,yn,yc,cl,nm,pa,pl,pc,r1,r2,lo,st,ca,cn,cc,ha,t,hc,ma,ml,mc,la,lc,T,L⟩:=b;simp only at b1 b2 b4;subst b1 b2;simp only[PBd.val,PM.val]at V a0 a1 ⊢;generalize Y:Gm (z.map Prod.snd) (f.map Prod.fst) op (n:Int)=R;unfold Gm at Y;have J:∀t:n<f.length,(f.map Prod.fst).getD ((n:Nat):Int).toNat ⟨0,0,[],(0,0),0,0,[],[],[]⟩=f[n].1:=fun t=>by simp[Vm,t]
 generalize J5 (z.map Prod.snd) (n:Int)=FD at *;obtain⟨fo,K,N⟩:=FD;simp only at V Y;have I:=Bc Y;have b5:=Bc V;have b6:=Bc a0;have b7:=Bc a1;have b8:=Bc J;have d1:=Bc hB;have b9:=Bc a9;have c0:=Bc b0;clear V a0 a1 Y h J hB a9 b0;have F:=Bu w (O24 a2 a3 a4 a5 f.length a6 (.p tg) T.length tc ya z.length yc cl nm pa pl pc r1 r2 lo st ca cn cc ha t hc ma ml mc la L.length lc) (O15 Q op (n:Int));have U0:=Cb w (O24 a2 a3 a4 a5 f.length a6 (.p tg) T.length tc ya z.length yc cl nm pa pl pc r1 r2 lo st ca cn cc ha t hc ma ml mc la L.length lc) (O15 Q op (n:Int));have I0:=Bx w (O24 a2 a3 a4 a5 f.length a6 (.p tg) T.length tc ya z.length yc cl nm pa pl pc r1 r2 lo st ca cn cc ha t hc ma ml mc la L.length lc) (O15 Q op (n:Int));by_cases j:op=0\/op=24\/op=7\/op=8\/op=9\/op=10
 ·rcases j with rfl|rfl|rfl|rfl|rfl|rfl
  all_goals
   have A:Hid (R=[(1,0)]):=by unfold Hid;rw[<- Ba I];simp
   go_in;go_wp2_with fail;refine Qb (Sh _) F ?_;intro v O l;have D:=l.size;have G:=l.alloc D (O7 1 0);go_wp2;go_ret;rw[Ba A];exact⟨some ⟨v.heap.size,0,none⟩,1,rfl,TyR.new1 v _ _,fun g o e=>(by simp at e;omega),G⟩
 have n0:(op==0)=false:=Fr;have d2:(op==24)=false:=Fr;have n7:(op==7)=false:=Fr;have n8:(op==8)=false:=Fr;have n9:(op==9)=false:=Fr;have d3:(op==10)=false:=Fr;have i0:¬(op=0\/op=24\/op=7\/op=8\/op=9\/op=10):=j;clear j;by_cases j:op=1
 ·subst j;have A:Hid (R=[(2,0)]):=by unfold Hid;rw[<- Ba I];simp
  go_in;go_wp2_with fail;refine Qb (Bjm _) F ?_;intro v O l;have D:=l.size;have G:=l.alloc D (O7 2 0);go_wp2;go_ret;rw[Ba A];exact⟨some ⟨v.heap.size,0,none⟩,1,rfl,TyR.new1 v _ _,fun g o e=>(by simp at e;omega),G⟩
 have n1:(op==1)=false:=Fr;have i1:¬(op=1):=j;clear j;by_cases j:op=17
 ·subst j;have A:Hid (R=[(K,N)]):=by unfold Hid;rw[<- Ba I];simp
  go_in;go_wp2_with fail;refine Qb (Ba b5 _ F) F ?_;intro v O l;have D:=l.size;have G:=(l.alloc D (O7 K N)).alloc Fr (O7 K N);go_wp2;go_ret;rw[Ba A];exact⟨some ⟨v.heap.size+1,0,none⟩,1,rfl,by simpa using TyR.new1 (v.alloc (O7 K N)) K N,fun g o e=>(by simp at e;omega),G⟩
 have d4:(op==17)=false:=Fr;have c1:¬(op=17):=j;clear j;by_cases j:op=19
 ·subst j;have A:Hid (R=[(3,(n:Int))]):=by unfold Hid;rw[<- Ba I];simp
  go_in;go_wp2_with fail;refine Qb (Ma (n:Int) _) F ?_;intro v O l;have D:=l.size;have G:=l.alloc D (O7 3 (n:Int));go_wp2;go_ret;rw[Ba A];exact⟨some ⟨v.heap.size,0,none⟩,1,rfl,TyR.new1 v _ _,fun g o e=>(by simp at e;omega),G⟩
 have d5:(op==19)=false:=Fr;have c2:¬(op=19):=j;clear j;by_cases j:op=20\/op=21
 ·rcases j with rfl|rfl
  all_goals
   have t:=Ba c0 Hd;have J:=Ba b8 t;have c3:=Ba b9 f[n] (Brn t);have A:Hid (R=Ds f[n].1.result):=by unfold Hid;rw[<- Ba I];rw[J];simp
   go_in;go_wp2_with fail;refine(Ba b6 t _ F).mono ?_;rintro e v ⟨q,rfl,hq,c4,O⟩;have l:=QB F O;have D:=l.size;have a7:=hq.r1;have a8:=hq.r2;obtain⟨q1,q2,q3,q4,q5,q6,q7,q8,q9,qa,qb,qc,qd,qe,qf,qg,qh,qi⟩:=q;simp only at a7 a8;have b3:Ds f[n].1.result=Ds (q6,q7):=by rw[a7,a8]
   have c5:=Bc b3;clear hq c4 a7 a8 b3 J c3;go_wp2_with fail;refine(Ba b7 ⟨q1,q2,q3,q4,q5,q6,q7,q8,q9,qa,qb,qc,qd,qe,qf,qg,qh,qi⟩ _).mono ?_;rintro e w2 ⟨a,c,rfl,ht,c6,c7⟩;have c8:=(l.alloc D (O18 q1 q2 q3 q4 q5 q6 q7 q8 q9 qa qb qc qd qe qf qg qh qi)).trans (c7.mono Fr);go_wp2;go_ret;rw[Ba A,Ba c5];exact⟨a,c,rfl,ht,fun g o e=>(by have:=c6 g o e;simp at this;omega),c8⟩
 have d6:(op==20)=false:=Fr;have d7:(op==21)=false:=Fr;have c9:¬(op=20\/op=21):=j;clear j;have A:Hid (R=[]):=by unfold Hid;rw[<- Ba I];simp[i0,i1,c1,c2,c9]
 go_in;go_wp2;go_ret;rw[Ba A];exact⟨none,0,rfl,TyR.nil _,fun g o e=>(by cases e),F⟩
def Bmf(b:PBd)(bb k:Nat)(lm:List (Rd.Mth×Ex))(B:List (Value×List (Int×Int)))(c:BnC)(v:FrV)(q:Dv)(n:Nat)(l w:TW)(D:Ru b l bb lm B)(hw:Bl l w)(h:Ea w l.heap.size k c v q):Calls prog 269 #[b.val,.q k 0,.i (n:Int)] w fun e j=>e=.r (.tuple #[])/\∃v',Ea j l.heap.size k c v' (W5 c.T (Dk b.T (B.map Prod.snd) (n:Int)) (J4 b.L (n:Int)) (n:Int) q)/\Bn k w v j v':=by
 have b6:=fun j (hb:Bl l j)=>Ti b.T b.tg b.tc B bb b.ya b.yc (n:Int) j D.y14 D.tl D.yf (D.below hb).tr (by have:=(D.below hb).fs;rw[D.yl]at this;exact this);have a6:=fun c7 j (hb:Bl l j)=>Bha b bb lm B c7 (n:Int) j (D.below hb);have d3:(Dk b.T (B.map Prod.snd) (n:Int)).length<=14000:=by
  unfold Dk;have:=Mm b.T (B.map Prod.snd) (n:Int) (fun p hp=>by obtain⟨x,hx,rfl⟩:=List.mem_map.1 hp;exact D.yf x hx) (B.map Prod.snd).length;have d7:=D.y14;rw[Br1]at this ⊢;omega
 have c8:=D.ml;have c9:=D.yl;obtain⟨a7,a8,a9,b0,d8,b1,tg,tc,ya,yn,yc,cl,nm,pa,pl,pc,r1,r2,lo,st,ca,cn,cc,ha,hl,hc,ma,ml,mc,la,lc,T,L⟩:=b;simp only at c8 c9;subst c8 c9;simp only[PBd.val]at b6 a6 d3 ⊢;unfold W5;generalize Dk T (B.map Prod.snd) (n:Int)=A at *;have O:∀c7 j,Bl l j->_:=a6;generalize d4:J4 L (n:Int)=d6 at *;have b7:=Bc b6;have b2:=Bc a6;clear b6 a6 O D d4;have K:=h.alloc (O24 a7 a8 a9 b0 lm.length b1 (.p tg) T.length tc ya B.length yc cl nm pa pl pc r1 r2 lo st ca cn cc ha hl hc ma ml mc la L.length lc);have GA:=(Bn.refl k w v).alloc (O24 a7 a8 a9 b0 lm.length b1 (.p tg) T.length tc ya B.length yc cl nm pa pl pc r1 r2 lo st ca cn cc ha hl hc ma ml mc la L.length lc);have UA:=Be w (O24 a7 a8 a9 b0 lm.length b1 (.p tg) T.length tc ya B.length yc cl nm pa pl pc r1 r2 lo st ca cn cc ha hl hc ma ml mc la L.length lc);have N:v.free k w.heap.size:=h.new (Bru _);have a4:=hw.alloc (by exact hw.size) (O24 a7 a8 a9 b0 lm.length b1 (.p tg) T.length tc ya B.length yc cl nm pa pl pc r1 r2 lo st ca cn cc ha hl hc ma ml mc la L.length lc);have d9:=h.k_lt;generalize d0:Bj (Ga c.T A q)=tb;have b8:=Bc d0;obtain⟨⟨t1,m⟩,q2⟩:=tb;simp only;clear d0;unfold Py;by_cases b3:t1=4
 ·subst b3;rw[Pk (show ¬((4:Int),m).1≠4 by simp)];have O:=fun j hb=>Ba b2 m j hb;cases b4:d6 m with
  | false =>
   rw[Th rfl];rw[b4]at O;have HI:=Bc O;clear O b4 b2;go_in;go_wp2_with fail;refine(Ba b7 _ a4).mono ?_;rintro e Q ⟨V,Y,rfl,F,s⟩;have Z:=K.below s;have G1:=GA.trans (Bn.of_below v s);have G:=stay s UA;have a0:TyF Q k v V A.length Y A:=⟨Gw F rfl,fun g o e=>(by subst e;exact K.new (F.lt g rfl).1)⟩;have l1:=Sp G;clear s F;go_wp2_with fail;refine Qm (Rj Q l.heap.size k c v q V A.length Y A Z a0 Ck) ?_;rintro w2 ⟨v2,h2,t⟩;have I:=t.stay N G;have J:=t.free N l1;have l2:=Sp I;go_wp2_with fail;refine(L8 w2 l.heap.size k c v2 _ h2).mono ?_;rw[Ba b8];rintro e w3 ⟨rfl,v3,f,z⟩;simp only at f;have U3:=z.stay J I;have d1:=z.free J l2;have a1:=(G1.trans t).trans z;have a2:=hw.trans (a1.low h);have b5:=a2.size;have b9:=f.new (Bru _);have c5:=Bb f.blk 5;have f5:=Bk f.blk 5;have d2:=f.k_lt;simp at c5;clear G I N J G1 t z Z h2 K GA UA a4 a0 l1 l2;obtain⟨m0,m1,m2,m3,m4,m5,m6,m7,m8,m9,c0,c1,c2,c3,c4⟩:=Tk U3;simp at m0 m1 m2 m3 m4 m5 m6 m7 m8 m9 c0 c1 c2 c3 c4;have lU:=Sp U3;have c6:=a2.alloc b5 (O7 4 m);go_wp2_with fail;refine Qm (Ba HI _ c6) ?_;intro w4 a3;have h4:=(f.alloc (O7 4 m)).below a3;have G4:=(a1.alloc (O7 4 m)).trans (Bn.of_below _ a3);have d5:=Bb h4.blk 5;have e5:=Bk h4.blk 5;have f0:=h4.k_lt;simp at d5;go_wp2;refine tb (.tuple #[]) (by simp[results,results269,go_sem]) ?_;exact⟨rfl,_,h4.brk,G4.brk⟩
  | true =>
   rw[Pk Hd];rw[b4]at O;have HI:=Bc O;clear O b4 b2;go_in;go_wp2_with fail;refine(Ba b7 _ a4).mono ?_;rintro e Q ⟨V,Y,rfl,F,s⟩;have Z:=K.below s;have G1:=GA.trans (Bn.of_below v s);have G:=stay s UA;have a0:TyF Q k v V A.length Y A:=⟨Gw F rfl,fun g o e=>(by subst e;exact K.new (F.lt g rfl).1)⟩;have l1:=Sp G;clear s F;go_wp2_with fail;refine Qm (Rj Q l.heap.size k c v q V A.length Y A Z a0 Ck) ?_;rintro w2 ⟨v2,h2,t⟩;have I:=t.stay N G;have J:=t.free N l1;have l2:=Sp I;go_wp2_with fail;refine(L8 w2 l.heap.size k c v2 _ h2).mono ?_;rw[Ba b8];rintro e w3 ⟨rfl,v3,f,z⟩;simp only at f;have U3:=z.stay J I;have d1:=z.free J l2;have a1:=(G1.trans t).trans z;have a2:=hw.trans (a1.low h);have b5:=a2.size;have b9:=f.new (Bru _);have c5:=Bb f.blk 5;have f5:=Bk f.blk 5;have d2:=f.k_lt;simp at c5;clear G I N J G1 t z Z h2 K GA UA a4 a0 l1 l2;obtain⟨m0,m1,m2,m3,m4,m5,m6,m7,m8,m9,c0,c1,c2,c3,c4⟩:=Tk U3;simp at m0 m1 m2 m3 m4 m5 m6 m7 m8 m9 c0 c1 c2 c3 c4;have lU:=Sp U3;have c6:=a2.alloc b5 (O7 4 m);have XA:=Be w3 (O7 4 m);go_wp2_with fail;refine Qm (Ba HI _ c6) ?_;intro w4 a3;have h4:=(f.alloc (O7 4 m)).below a3;have G4:=(a1.alloc (O7 4 m)).trans (Bn.of_below _ a3);have X4:=stay a3 XA;have p0:w4.C w3.heap.size 0 (.i 4):=(Bb X4 0).trans rfl;have p1:w4.C w3.heap.size 1 (.i m):=(Bb X4 1).trans rfl;have lX:=Sp X4;clear a3;go_wp2
   go_region_held3 (fun j=>j.C w3.heap.size 0 (.i 4)/\j.C w3.heap.size 1 (.i m)) (first|exact⟨p0,p1⟩|exact⟨QC a5 lX p0,QC a5 lX p1⟩|exact⟨(Bb X6 0).trans rfl,(Bb X6 1).trans rfl⟩) (first|(go_at_call 165;refine(Ma (n:Int) _).mono ?_;rintro e w5 ⟨rfl,a5⟩)|(go_at_call 267;refine Qm (Aj w5 l.heap.size k c v3 q2 4 m 3 (n:Int) (h4.drew.below a5)) ?_;rintro w6 ⟨v6,h6,G6⟩;have X6:=G6.stay b9 (stay a5 (show w4.drew.heap[w3.heap.size]?=_ from X4))))
   go_wp2;go_end0;exact⟨rfl,v6,h6,(G4.drew.trans (Bn.of_below _ a5)).trans G6⟩
 rw[Th (show (t1,m).1≠4 from b3)];have f1:(t1 != 4)=true:=by simp[b3]
 clear b3 b2;go_in;go_wp2_with fail;refine(Ba b7 _ a4).mono ?_;rintro e Q ⟨V,Y,rfl,F,s⟩;have Z:=K.below s;have G1:=GA.trans (Bn.of_below v s);have G:=stay s UA;have a0:TyF Q k v V A.length Y A:=⟨Gw F rfl,fun g o e=>(by subst e;exact K.new (F.lt g rfl).1)⟩;have l1:=Sp G;clear s F;go_wp2_with fail;refine Qm (Rj Q l.heap.size k c v q V A.length Y A Z a0 Ck) ?_;rintro w2 ⟨v2,h2,t⟩;have I:=t.stay N G;have J:=t.free N l1;have l2:=Sp I;go_wp2_with fail;refine(L8 w2 l.heap.size k c v2 _ h2).mono ?_;rw[Ba b8];rintro e w3 ⟨rfl,v3,f,z⟩;simp only at f;have U3:=z.stay J I;have d1:=z.free J l2;have a1:=(G1.trans t).trans z;have a2:=hw.trans (a1.low h);have b5:=a2.size;have b9:=f.new (Bru _);have c5:=Bb f.blk 5;have f5:=Bk f.blk 5;have d2:=f.k_lt;simp at c5;clear G I N J G1 t z Z h2 K GA UA a4 a0 l1 l2;go_wp2;refine tb (.tuple #[]) (by simp[results,results269,go_sem]) ?_;exact⟨rfl,_,f.brk.alloc _,a1.brk.alloc _⟩
end Go.Proofs.YtpcgnjolfahacaaGreat
