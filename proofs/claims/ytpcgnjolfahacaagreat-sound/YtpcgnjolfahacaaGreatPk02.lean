/- the proof's parts -/
import Derived.Test.YtpcgnjolfahacaaGreatPk01
set_option maxRecDepth 100000
set_option maxHeartbeats 40000000
set_option linter.unusedVariables false
set_option linter.unusedSimpArgs false
set_option linter.defProp false
namespace Go.Proofs.YtpcgnjolfahacaaGreat
open Go.RowKit Go.Proofs.Tryz
variable{c:Int}{l:List (Value×List (Int×Int))}{k u:Nat}{z:TI}{w:TW}
abbrev Yi:Rf.Mth × Ms:=⟨⟨⟨0,0,[],(0,0),0,0,[],[],[]⟩,0,0⟩,⟨.slice none 0 0,⟨#[]⟩,.slice none 0 0,.slice none 0 0⟩⟩
def Cu (F:List Rf.Fld)(ms:List Rd.Mth)(res:Int × Int)(op n:Int):List (Int × Int) :=
 if op=7\/op=8\/op=9\/op=10\/op=13 then [(1,0),(1,0)] else if op=12\/op=25 then [(1,0)] else if op=14\/op=19 then [(3,0)]
 else if op=17 then [(3,(F.getD n.toNat ⟨0,0,(0,0)⟩).owner)] else if op=18 then [(3,(F.getD n.toNat ⟨0,0,(0,0)⟩).owner),(F.getD n.toNat ⟨0,0,(0,0)⟩).t]
 else if op=20 then (ms.getD n.toNat ⟨0,0,[],(0,0),0,0,[],[],[]⟩).params else if op=21 then (3,(ms.getD n.toNat ⟨0,0,[],(0,0),0,0,[],[],[]⟩).cl)::(ms.getD n.toNat ⟨0,0,[],(0,0),0,0,[],[],[]⟩).params
 else if op=22 then Ei res else if op=23 then [(3,1)] else []
def Fg (F:List Rf.Fld)(ms:List Rd.Mth)(op n:Int):List (Int × Int) :=
 if op=0\/op=7\/op=8\/op=9\/op=10\/op=24 then [(1,0)] else if op=1 then [(2,0)] else if op=17 then [(F.getD n.toNat ⟨0,0,(0,0)⟩).t]
 else if op=19 then [(3,n)] else if op=20\/op=21 then Ei (ms.getD n.toNat ⟨0,0,[],(0,0),0,0,[],[],[]⟩).result else []
def Im(l:List Rf.Fld)(k:Nat)(b:k<l.length)(j:Nat)(c:j<4):(Nd l)[k*4+j]?=[Value.int .i64 l[k].owner,.i l[k].slot,.i l[k].t.1,.i l[k].t.2][j]?/\k*4+j<(Nd l).length:=by
 refine⟨M5 (fun x:Rf.Fld=>[Value.int .i64 x.owner,.i x.slot,.i x.t.1,.i x.t.2]) 4 (fun _=>rfl) l k b j c,?_⟩;unfold Nd;rw[Kq (fun x:Rf.Fld=>[Value.int .i64 x.owner,.i x.slot,.i x.t.1,.i x.t.2]) 4 (fun _=>rfl) l];omega
def Bni(b:List (Rf.Mth×Ms))(q:Nat):(b.map fun x=>x.1.m).getD q ⟨0,0,[],(0,0),0,0,[],[],[]⟩=(b.getD q Yi).1.m:=by
 simp only[Th,Bv8];cases b[q]? <;> rfl
def Bke(f:RFl)(m:RMV)(p:Nat)(w:TW)(hf:f.ok w)(hp:p<m.code.size)(hs:m.code.size<=100000)(a6:∀x∈f.ms,x.1.m.params.length<=1000) (b4:(Co m.code).getD p 0=17\/(Co m.code).getD p 0=18->0<=Rf.at' m.code.data.toList ((p:Int)+1)/\Rf.at' m.code.data.toList ((p:Int)+1)<(f.fields.length:Int)) (b5:(Co m.code).getD p 0=20\/(Co m.code).getD p 0=21->0<=Rf.at' m.code.data.toList ((p:Int)+1)/\Rf.at' m.code.data.toList ((p:Int)+1)<(f.ms.length:Int)):Calls prog 98 #[f.val,m.val,.i (p:Int)] w fun e w' => ∃a c,e=.r (.s a (Cu f.fields (f.ms.map fun x=>x.1.m) (m.r1,m.r2) ((Co m.code).getD p 0) (Rf.at' m.code.data.toList ((p:Int)+1))).length c)/\TyR w' (.s a (Cu f.fields (f.ms.map fun x=>x.1.m) (m.r1,m.r2) ((Co m.code).getD p 0) (Rf.at' m.code.data.toList ((p:Int)+1))).length c) (Cu f.fields (f.ms.map fun x=>x.1.m) (m.r1,m.r2) ((Co m.code).getD p 0) (Rf.at' m.code.data.toList ((p:Int)+1)))/\Bl w w':=by
 rw[Sd _ _ hp]at b4 b5 ⊢;have c0:=fun w=>Yq m p w hp hs;have c3:=fun w=>Bkf m w;have b6:=fun w (h:f.ok w)=>Uc f.a1 f.a2 f.c1 f.ms.length f.c2 f.bb f.l w h.1 h.2.1 h.2.2.2.1 h.2.2.2.2.1;have c8:=hf;obtain⟨c9,d0,d1,d2,bb,l,G⟩:=f;obtain⟨cl,nm,pa,pl,pc,r1,r2,lo,st,v,ha,hl,hc,ma,ml,mc,j3,j4⟩:=m;simp only[RMV.val,RFl.val]at hp hs c0 b6 c3 b4 b5 a6 ⊢;have d3:(RFl.mk c9 d0 d1 d2 bb l G).fields=Rf.fieldsTo (Cw l) (l.map Prod.fst) (l.length-7):=rfl;rw[<- d3]at b6;generalize (RFl.mk c9 d0 d1 d2 bb l G).fields=z at *;generalize Rf.at' v.data.toList ((p:Int)+1)=n at *;generalize D:Cu z (G.map fun x=>x.1.m) (r1,r2) (v[p].toNat:Int) n=R;have j5:(p:Int)<(v.size:Int):=Bd;have j6:∀c:UInt8,IntKind.i64.wrap (c.toNat:Int)=(c.toNat:Int):=fun c=>Eg _ Bd (by have:=c.toNat_lt;omega);have g0:=Bc c0;have g1:=Bc c3;have d4:=Bc b6;have b7:=Bc c8;have d5:=Bc b4;have d6:=Bc b5;have d7:=Bc a6;clear c0 c3 b6 c8 hf b4 b5 a6 d3;go_in;go_wp2_with fail;refine Qm (Ba g0 _) ?_;intro w1 b8;have J:=(Bx w _ _).trans (b8.mono Fm);have CF:=stay b8 (Cb w _ _);have CM:=stay b8 (Bv w _ _);obtain⟨m0,m1,m2,m3,m4,m5,m6,m7,m8,m9,g2,g3⟩:=Ia CM;obtain⟨f0,f1⟩:=cl2 CF;simp at f0 f1 m0 m1 m2 m3 m4 m5 m6 m7 m8 m9 g2 g3;have lF:=Pk CF;have lM:=Pk CM;have a4:=J.size;clear b8;by_cases b:(v[p].toNat:Int)=7\/(v[p].toNat:Int)=8\/(v[p].toNat:Int)=9\/(v[p].toNat:Int)=10\/(v[p].toNat:Int)=13
 ·rcases b with b|b|b|b|b
  all_goals
   have A:Hid (R=[(1,0),(1,0)]):=by unfold Hid;rw[<- D];unfold Cu;rw[b];simp
   clear D;have hn:=TyR.new2 w1 1 0 1 0;go_wp2;go_ret;obtain rfl:=Ba A;exact⟨_,_,rfl,hn,J.alloc a4 _⟩
 have n7:((v[p].toNat:Int)==7)=false:=Fm;have n8:((v[p].toNat:Int)==8)=false:=Fm;have n9:((v[p].toNat:Int)==9)=false:=Fm;have j7:((v[p].toNat:Int)==10)=false:=Fm;have j8:((v[p].toNat:Int)==13)=false:=Fm;have i7:=b;clear b;by_cases b:(v[p].toNat:Int)=12\/(v[p].toNat:Int)=25
 ·rcases b with b|b
  all_goals
   have A:Hid (R=[(1,0)]):=by unfold Hid;rw[<- D];unfold Cu;rw[b];simp
   clear D;go_wp2_with fail;refine(Bps 1 _).mono ?_;rintro e I ⟨a,c,rfl,ht,F⟩;go_wp2;go_ret;obtain rfl:=Ba A;exact⟨a,c,rfl,ht,J.trans (F.mono a4)⟩
 have j9:((v[p].toNat:Int)==12)=false:=Fm;have k0:((v[p].toNat:Int)==25)=false:=Fm;have g4:=b;clear b;by_cases b:(v[p].toNat:Int)=14\/(v[p].toNat:Int)=19
 ·rcases b with b|b
  all_goals
   have A:Hid (R=[(3,0)]):=by unfold Hid;rw[<- D];unfold Cu;rw[b];simp
   clear D;go_wp2_with fail;refine Qm (Tg 0 _) ?_;intro I F;have L:=J.trans (F.mono a4);have hn:=TyR.new1 I 3 0;go_wp2;go_ret;obtain rfl:=Ba A;exact⟨_,_,rfl,hn,L.alloc L.size _⟩
 have k1:((v[p].toNat:Int)==14)=false:=Fm;have k2:((v[p].toNat:Int)==19)=false:=Fm;have g5:=b;clear b;by_cases b:(v[p].toNat:Int)=17
 ·have hq:=Ba d5 (by rw[b];simp);obtain⟨q,rfl⟩:=Bvk hq.1;have K:q<z.length:=Bd;have c4:(q:Int)<(z.length:Int):=Bd;have A:Hid (R=[(3,(z.getD q ⟨0,0,(0,0)⟩).owner)]):=by unfold Hid;rw[<- D];unfold Cu;rw[b];simp[-List.getD_eq_getElem?_getD]
  clear D;go_wp2_with fail;refine(Ba d4 _ ((Ba b7).below J)).mono ?_;rintro e I ⟨va,vc,rfl,a9,F⟩;have L:=J.trans (F.mono a4);have b0:=L.size;obtain⟨g,hg,N,_,a0⟩:=Cf a9 Bd;have Q:=(a0 _ (Im z q K 0 Bd).2).trans (Im z q K 0 Bd).1;have O:=(a0 _ (Im z q K 2 Bd).2).trans (Im z q K 2 Bd).1;have V:=(a0 _ (Im z q K 3 Bd).2).trans (Im z q K 3 Bd).1;simp at Q O V;have b1:z.getD q ⟨0,0,(0,0)⟩=z[q]:=by simp[Th,K]
  have B:=Ba A;rw[b1]at B;generalize z[q]=fd at *;obtain⟨fo,fs,c5,c6⟩:=fd;simp only at Q O V B;have a7:=Bc B;clear a0 a9 b1 B A;subst hg;go_wp2_with fail;refine Qm (Tg fo _) ?_;intro w3 g6;have b9:=L.trans (g6.mono b0);have hn:=TyR.new1 w3 3 fo;go_wp2;go_ret;obtain rfl:=Ba a7;exact⟨_,_,rfl,hn,b9.alloc b9.size _⟩
 have k3:((v[p].toNat:Int)==17)=false:=Fm;have g7:=b;clear b;by_cases b:(v[p].toNat:Int)=18
 ·have hq:=Ba d5 (by rw[b];simp);obtain⟨q,rfl⟩:=Bvk hq.1;have K:q<z.length:=Bd;have c4:(q:Int)<(z.length:Int):=Bd;have A:Hid (R=[(3,(z.getD q ⟨0,0,(0,0)⟩).owner),(z.getD q ⟨0,0,(0,0)⟩).t]):=by unfold Hid;rw[<- D];unfold Cu;rw[b];simp[-List.getD_eq_getElem?_getD]
  clear D;go_wp2_with fail;refine(Ba d4 _ ((Ba b7).below J)).mono ?_;rintro e I ⟨va,vc,rfl,a9,F⟩;have L:=J.trans (F.mono a4);have b0:=L.size;obtain⟨g,hg,N,_,a0⟩:=Cf a9 Bd;have Q:=(a0 _ (Im z q K 0 Bd).2).trans (Im z q K 0 Bd).1;have O:=(a0 _ (Im z q K 2 Bd).2).trans (Im z q K 2 Bd).1;have V:=(a0 _ (Im z q K 3 Bd).2).trans (Im z q K 3 Bd).1;simp at Q O V;have b1:z.getD q ⟨0,0,(0,0)⟩=z[q]:=by simp[Th,K]
  have B:=Ba A;rw[b1]at B;generalize z[q]=fd at *;obtain⟨fo,fs,c5,c6⟩:=fd;simp only at Q O V B;have a7:=Bc B;clear a0 a9 b1 B A;subst hg;have d8:=fun w=>Tg fo w;have g8:=Bc d8;clear d8;go_wp2
  go_region_held3 (fun w'=>w'.C g (q*4) (.i fo)/\w'.C g (q*4+2) (.i c5)/\w'.C g (q*4+3) (.i c6))
   (first|exact⟨Q,O,V⟩|exact⟨QC Z N Q,QC Z N O,QC Z N V⟩|exact⟨(QA (QL Z N) (QC Z N Q)),(QA (QL Z N) (QC Z N O)),(QA (QL Z N) (QC Z N V))⟩)
   (first|(go_at_call 142;refine(Ba g8 _).mono ?_;rintro e w7 ⟨rfl,Z⟩))
  have d9:=L.drew.trans (Z.mono b0);have hn:=TyR.new2 w7 3 fo c5 c6;go_wp2;go_ret;obtain rfl:=Ba a7;exact⟨_,_,rfl,hn,d9.alloc d9.size _⟩
 have k4:((v[p].toNat:Int)==18)=false:=Fm;have g9:=b;clear b;by_cases b:(v[p].toNat:Int)=20
 ·have hq:=Ba d6 (by rw[b];simp);obtain⟨q,rfl⟩:=Bvk hq.1;have a3:q<G.length:=Bd;have c4:(q:Int)<(G.length:Int):=Bd;have A:Hid (R=(G.getD q Yi).1.m.params):=by unfold Hid;rw[<- D];unfold Cu;rw[b];simp[-List.getD_eq_getElem?_getD,Bni]
  clear D;obtain⟨o,g,hg,N,Y,a8⟩:=RFl.mth ((Ba b7).below J) a3;simp only at hg Y a8 a3;replace Y:=Ua Y;have b2:G.getD q Yi=G[q]:=by simp[Th,a3]
  have B:=Ba A;rw[b2]at B;have a6:=Ba d7 _ (Bvh a3);generalize G[q]=md at *;obtain⟨md,mu⟩:=md;simp only at a8 B a6;obtain⟨e1,-,e3,e4,-,-,-,-,e9,b3,-,-,-,-,-⟩:=a8;have c7:md.m.result=(o.r1,o.r2):=by rw[e3,e4]
  generalize md.m.params=ps at *;obtain⟨a5,h0,f2,h1,f3,h2,h3,h4,h5,h6,h7,h8,h9,i0,i1,i2,i3,i4⟩:=o;simp only at e9 b3 B Y;subst e9;obtain⟨Q,y1,O,V,y4,y5,y6,y7,y8,y9,f4,f5⟩:=Y;have a7:=Bc B;clear b2 B A c7 e1 e3 e4;subst hg;go_wp2;go_ret;obtain rfl:=Ba a7;exact⟨_,_,rfl,TyR.of_tys b3,J⟩
 have k5:((v[p].toNat:Int)==20)=false:=Fm;have i5:=b;clear b;by_cases b:(v[p].toNat:Int)=21
 ·have hq:=Ba d6 (by rw[b];simp);obtain⟨q,rfl⟩:=Bvk hq.1;have a3:q<G.length:=Bd;have c4:(q:Int)<(G.length:Int):=Bd;have A:Hid (R=(3,(G.getD q Yi).1.m.cl)::(G.getD q Yi).1.m.params):=by unfold Hid;rw[<- D];unfold Cu;rw[b];simp[-List.getD_eq_getElem?_getD,Bni]
  clear D;obtain⟨o,g,hg,N,Y,a8⟩:=RFl.mth ((Ba b7).below J) a3;simp only at hg Y a8 a3;replace Y:=Ua Y;have b2:G.getD q Yi=G[q]:=by simp[Th,a3]
  have B:=Ba A;rw[b2]at B;have a6:=Ba d7 _ (Bvh a3);generalize G[q]=md at *;obtain⟨md,mu⟩:=md;simp only at a8 B a6;obtain⟨e1,-,e3,e4,-,-,-,-,e9,b3,-,-,-,-,-⟩:=a8;have c7:md.m.result=(o.r1,o.r2):=by rw[e3,e4]
  rw[<- e1]at B;generalize md.m.params=ps at *;obtain⟨a5,h0,f2,h1,f3,h2,h3,h4,h5,h6,h7,h8,h9,i0,i1,i2,i3,i4⟩:=o;simp only at e9 b3 B Y;subst e9;obtain⟨Q,y1,O,V,y4,y5,y6,y7,y8,y9,f4,f5⟩:=Y;have a7:=Bc B;clear b2 B A c7 e1 e3 e4;subst hg;go_wp2_with fail;refine Qm (Tg a5 _) ?_;intro I F;have L:=J.trans (F.mono a4);have b0:=L.size;have f6:=stay F CF;have i6:=Bb f6 1;have k6:=Pk f6;simp at i6;have k7:g<I.heap.size:=Bvm N F.size;have k8:=(F.cell (p:=.a g (q*12+2)) N).trans O;have i8:Bl I (I.alloc (O7 3 a5)):=QN _;have i9:=((TyR.of_tys b3).below F).below i8;have f7:(I.alloc (O7 3 a5)).ownsRow I.heap.size 31 2 (.s (.p I.heap.size) 1 1) ([((3:Int),a5)]:TP).length (Bu [((3:Int),a5)]) :=
   ⟨rfl,.inr ⟨I.heap.size,1,_,rfl,Wf _,Bf _ _,Fr,Mc,rfl,rfl⟩⟩
  clear F Q y1 O V y4 y5 y6 y7 y8 y9 f4 f5;go_wp2_with (at_builtin;refine Pv rfl _ _ rfl I.heap.size _ [(3,a5)] ps f2 ps.length f3 rfl f7 rfl i9 Fm Fr ?_)
  intro v' w3 f8 f9;obtain⟨va,vc,rfl⟩:=Bg f8;have b9:=(L.alloc b0 (O7 3 a5)).grown f9 Fm (fun j hj=>by have:=(f7.lt j hj).1;omega);clear f9;go_wp2;go_ret;obtain rfl:=Ba a7;exact⟨va,vc,Fr,Sc (by simpa using f8) Fr,b9⟩
 have k9:((v[p].toNat:Int)==21)=false:=Fm;have j0:=b;clear b;by_cases b:(v[p].toNat:Int)=22
 ·have A:Hid (R=Ei (r1,r2)):=by unfold Hid;rw[<- D];unfold Cu;rw[b];simp
  clear D;go_wp2_with fail;refine(Ba g1 _).mono ?_;rintro e I ⟨a,c,rfl,ht,F⟩;go_wp2;go_ret;obtain rfl:=Ba A;exact⟨a,c,rfl,ht,J.trans (F.mono a4)⟩
 have l0:((v[p].toNat:Int)==22)=false:=Fm;have j1:=b;clear b;by_cases b:(v[p].toNat:Int)=23
 ·have A:Hid (R=[(3,1)]):=by unfold Hid;rw[<- D];unfold Cu;rw[b];simp
  clear D;go_wp2_with fail;refine Qm (Tg 1 _) ?_;intro I F;have L:=J.trans (F.mono a4);have hn:=TyR.new1 I 3 1;go_wp2;go_ret;obtain rfl:=Ba A;exact⟨_,_,rfl,hn,L.alloc L.size _⟩
 have l1:((v[p].toNat:Int)==23)=false:=Fm;have j2:=b;clear b;have A:Hid (R=[]):=by
  unfold Hid;rw[<- D];unfold Cu;rw[Pf Bd,Pf Bd,Pf Bd,Pf Bd,Pf Bd,Pf Bd,Pf Bd,Pf Bd,Pf Bd]
 clear D i7 g4 g5 g7 g9 i5 j0 j1 j2;go_wp2;go_ret;obtain rfl:=Ba A;exact⟨none,0,rfl,TyR.nil _,J⟩
def Yh (T:TI)(want:TP)(arg:Int->Int)(c:Int)(x:Be):Option Be :=
 if Ig T x.stack want=false then none else if x.stack.length<want.length+1 then none
 else if (x.stack.getD (x.stack.length-want.length-1) (0,0)).1≠4 then none
 else if arg (x.stack.getD (x.stack.length-want.length-1) (0,0)).2≠c then none
 else some ⟨Er (x.stack.getD (x.stack.length-want.length-1) (0,0)) (3,c) x.locals,Er (x.stack.getD (x.stack.length-want.length-1) (0,0)) (3,c) (x.stack.take (x.stack.length-want.length-1))⟩
def Ik (T:TI)(F:List Rf.Fld)(ms:List Rd.Mth)(want:Int->TP)(arg:Int->Int)(res:Int × Int)(p op n:Int)(x:Be):Option Be :=
 if op=2 then (if (x.locals.getD n.toNat (0,0)).1=0 then none else some ⟨x.locals,x.stack++[x.locals.getD n.toNat (0,0)]⟩)
 else if op=3 then (if x.stack.length<1 then none else some ⟨x.locals.set n.toNat (x.stack.getD (x.stack.length-1) (0,0)),x.stack.take (x.stack.length-1)⟩)
 else if op=4 then (if x.stack.length<1 then none else some ⟨x.locals,x.stack.take (x.stack.length-1)⟩)
 else if op=5 then (if x.stack.length<1 then none else some ⟨x.locals,x.stack++x.stack.drop (x.stack.length-1)⟩)
 else if op=6 then (if x.stack.length<2 then none else some ⟨x.locals,x.stack.take (x.stack.length-2)++[x.stack.getD (x.stack.length-1) (0,0),x.stack.getD (x.stack.length-2) (0,0)]⟩)
 else if op=15 then some ⟨Er (4,p) (0,0) x.locals,Er (4,p) (0,0) x.stack++[(4,p)]⟩
 else if op=16 then Yh T (want n) arg n x
 else if Ig T x.stack (Cu F ms res op n)=false then none
 else some ⟨x.locals,x.stack.take (x.stack.length-(Cu F ms res op n).length)++Fg F ms op n⟩
def Ym(l:TP)(q:Nat)(b c:Int):Bu (l.set q (b,c))=((Bu l).set (q*2) (.i b)).set (q*2+1) (.i c):=by
 induction l generalizing q with
 | nil=>simp[Bu]
 | cons x r ih =>
  have e:∀(y:Int×Int) (s:TP),Bu (y::s)=.i y.1::.i y.2::Bu s:=fun y s=>by simp[Bu]
  cases q with
  | zero=>rw[Byw,e,e];rfl
  | succ j=>rw[Bwf,e,e,ih,show (j+1)*2=j*2+1+1 by omega];rfl
def Xo{a:TA}{n j:Nat}{q:TP}(h:Dp w u (.s a n j) q){K:Nat}(B:K<q.length)(m p:Int):∃g,a=some ⟨g,0,none⟩/\g<w.heap.size/\u<=g/\w.C g (K*2) (.i q[K].1)/\w.C g (K*2+1) (.i q[K].2)/\w.frozen? (.a g (K*2))=false/\w.frozen? (.a g (K*2+1))=false/\Dp ((w.setCell (.a g (K*2)) (.i m)).setCell (.a g (K*2+1)) (.i p)) u (.s a n j) (q.set K (m,p)):=by
 obtain⟨L,N,t,_,D⟩:=(TyR.of_tys h).at Bd;obtain⟨O,⟨f,Q⟩|⟨g,V,Y,f,v,e,F,G,I,J⟩⟩:=h
 ·omega
 simp only[Value.slice.injEq]at f;obtain⟨rfl,rfl,rfl⟩:=f;simp only[Option.some.injEq,Addr.mk.injEq]at t;obtain⟨rfl,rfl,-⟩:=t;obtain⟨z,A⟩:=D K B;simp only[Bvp]at z A;refine⟨g,rfl,Pk e,v,z,A,Bj e _,Bj e _,?_⟩;refine⟨by rw[Kc],.inr ⟨g,j,_,by rw[Bv7],v,Bq (Bq e _) _,by rw[Bv7];exact F,G,by simpa using I,?_⟩⟩;rw[Bv7,Ym,<- J];simp only[Byn];rw[Bzv,Bzv]
def TyR.set_frame{i:TX}{q:TP}{l J:TA}{s j K L:Nat}{ty:TypeId}(h:TyR w i q)(A:w.heap[u]?=some (.cells #[.s l s j,.s J K L] ty (0,0)))(b t:TX):TyR ((w.setCell (.a u 0) b).setCell (.a u 1) t) i q:=by
 rcases h with h|⟨g,o,c,N,O,D,Q,V,F⟩
 ·exact .inl h
 obtain⟨B,Y⟩:∃B,((w.setCell (.a u 0) b).setCell (.a u 1) t).heap[g]?=some (.cells B 31 (0,0)):=by
  by_cases e:g=u;·subst e;have G:=D.symm.trans A;simp only[Option.some.injEq,Obj.cells.injEq]at G;obtain⟨_,rfl,_⟩:=G;exact⟨_,Bq (Bq A b) t⟩
  exact⟨N,((Bvg _ _ _ _ (by simpa using e)).trans (Bvg _ _ _ _ (by simpa using e))).trans D⟩
 refine .inr ⟨g,o,c,B,O,Y,Q,V,fun f x C=>?_⟩;have I:g≠u:=by
  intro e;subst e;have p:=F f x C;rw[Bb A]at p;have Z:∃k,x=Value.int .i64 k:=by
   have:=Bwv C;simp only[Bu,List.mem_flatMap,Bxy,Bx9,Bz2]at this;obtain⟨y,_,rfl|rfl⟩:=this<;>exact⟨_,rfl⟩
  obtain⟨k,rfl⟩:=Z;generalize o+f=m at p
  match m,p with
  | 0,p=>simp at p
  | 1,p=>simp at p
  | m+2,p=>simp at p
 rw[Byu _ _ _ _ (by intro e;exact I (congrArg Addr.block e).symm),Byu _ _ _ _ (by intro e;exact I (congrArg Addr.block e).symm)];exact F f x C
def Bk2(F:List Rf.Fld)(c:List Rd.Mth)(op n:Int):(Fg F c op n).length<=1:=by
 have e:∀b,(Ei b).length<=1:=fun b=>by unfold Ei;split<;>simp
 unfold Fg
 split
 ·simp
 split
 ·simp
 split
 ·simp
 split
 ·simp
 split
 ·exact e _
 simp
def Gt (st:Int)(y:Option Be):Option Be:=y.bind fun z=>if (z.stack.length:Int)<=st then some z else none
def Kk (T:TI)(mp:Int->Option Be)(p:Int)(lo:TP):List Rd.Hnd->Int
 | []=>0
 | h::r=>if p<h.frm then Kk T mp p lo r else if h.til<=p then Kk T mp p lo r
  else if (mp h.target).isSome=false then 8 else if Dk T ⟨lo,[(3,h.cl)]⟩ (Ef (mp h.target))=false then 9 else Kk T mp p lo r
def Mz (T:TI)(tk lv want:TP)(arg:Int->Int)(p op n:Int)(x:Be):Option Be :=
 if op=2 then (if (x.locals.getD n.toNat (0,0)).1=0 then none else some ⟨x.locals,x.stack++[x.locals.getD n.toNat (0,0)]⟩)
 else if op=3 then (if x.stack.length<1 then none else some ⟨x.locals.set n.toNat (x.stack.getD (x.stack.length-1) (0,0)),x.stack.take (x.stack.length-1)⟩)
 else if op=4 then (if x.stack.length<1 then none else some ⟨x.locals,x.stack.take (x.stack.length-1)⟩)
 else if op=5 then (if x.stack.length<1 then none else some ⟨x.locals,x.stack++x.stack.drop (x.stack.length-1)⟩)
 else if op=6 then (if x.stack.length<2 then none else some ⟨x.locals,x.stack.take (x.stack.length-2)++[x.stack.getD (x.stack.length-1) (0,0),x.stack.getD (x.stack.length-2) (0,0)]⟩)
 else if op=15 then some ⟨Er (4,p) (0,0) x.locals,Er (4,p) (0,0) x.stack++[(4,p)]⟩
 else if op=16 then Yh T want arg n x
 else if Ig T x.stack tk=false then none
 else some ⟨x.locals,x.stack.take (x.stack.length-tk.length)++lv⟩
def Bc8(T:TI)(F:List Rf.Fld)(b:List Rd.Mth)(c:Int->TP)(arg:Int->Int)(e:Int×Int)(p op n:Int)(x:Be):Ik T F b c arg e p op n x=Mz T (Cu F b e op n) (Fg F b op n) (c n) arg p op n x:=rfl
structure Ea where
 lo:List (Int × Int)
 st:List (Int × Int)
 br:Bool
def Bi (b:Ea):(Int × Int) × Ea :=
 if b.st.length=0 then ((0,0),⟨b.lo,b.st,true⟩) else (b.st.getD (b.st.length-1) (0,0),⟨b.lo,b.st.take (b.st.length-1),b.br⟩)
def Wo (T:TI)(t x:Int × Int)(b:Ea):Ea:=if Tr.fitsB T t.1 t.2 x.1 x.2=true then b else ⟨b.lo,b.st,true⟩
def Gf (T:TI)(l:TP):Nat->Ea->Ea
 | 0,b=>b
 | i+1,b=>Gf T l i (Wo T (Bi b).1 (l.getD i (0,0)) (Bi b).2)
def Gu (T:TI)(l:TP)(b:Ea):Ea:=Gf T l l.length b
def Es (hi:Int)(t:Int × Int)(b:Ea):Ea:=if hi<=(b.st.length:Int) then ⟨b.lo,b.st,true⟩ else ⟨b.lo,b.st++[t],b.br⟩
def Hf (hi:Int):TP->Ea->Ea
 | [],b=>b
 | t::r,b=>Hf hi r (Es hi t b)
def X8 (hi n:Int)(b:Ea):Ea :=
 if n<0 then ⟨b.lo,b.st,true⟩ else if (b.lo.length:Int)<=n then ⟨b.lo,b.st,true⟩ else if (b.lo.getD n.toNat (0,0)).1=0 then ⟨b.lo,b.st,true⟩ else Es hi (b.lo.getD n.toNat (0,0)) b
def Wn (n:Int)(b:Ea):Ea :=
 if n<0 then ⟨b.lo,(Bi b).2.st,true⟩ else if (b.lo.length:Int)<=n then ⟨b.lo,(Bi b).2.st,true⟩ else ⟨b.lo.set n.toNat (Bi b).1,(Bi b).2.st,(Bi b).2.br⟩
def Mt (old fresh:Int × Int)(b:Ea):Ea:=⟨Er old fresh b.lo,Er old fresh b.st,b.br⟩
def Bdm (hi:Int)(b:Ea):Ea:=Es hi (Bi (Bi b).2).1 (Es hi (Bi b).1 (Bi (Bi b).2).2)
def Bht (hi:Int)(b:Ea):Ea:=Es hi (Bi b).1 (Es hi (Bi b).1 (Bi b).2)
def Tm (isNew:Int->Bool)(c:Int)(t:Int × Int)(b:Ea):Ea :=
 if t.1≠4 then ⟨b.lo,b.st,true⟩ else if isNew t.2=false then ⟨b.lo,b.st,true⟩ else Mt t (3,c) b
def Au (T:TI)(want:TP)(isNew:Int->Bool)(c:Int)(b:Ea):Ea :=
 Tm isNew c (Bi (Gu T want b)).1 (Bi (Gu T want b)).2
def Fo (b:Ea):Option Be:=if b.br=true then none else some ⟨b.lo,b.st⟩
def Zd (T:TI)(hi:Int)(tk lv want:TP)(isNew:Int->Bool)(p op n:Int)(b:Ea):Ea :=
 if op=2 then X8 hi n b else if op=3 then Wn n b else if op=4 then (Bi b).2 else if op=5 then Bht hi b else if op=6 then Bdm hi b
 else if op=15 then Es hi (4,p) (Mt (4,p) (0,0) b) else if op=16 then Au T want isNew n b else Hf hi lv (Gu T tk b)
def Nv (T:TI)(hi:Int)(tk lv want:TP)(isNew:Int->Bool)(p op n:Int)(x:Be):Option Be:=Fo (Zd T hi tk lv want isNew p op n ⟨x.locals,x.stack,false⟩)
def Ee (T:TI):TP->TP->Bool
 | _,[]=>true
 | [],_::_=>false
 | s::ss,t::ts=>Tr.fitsB T s.1 s.2 t.1 t.2&&Ee T ss ts
def Pg(e:Tr.Ok z):∀(a b:TP),(∀t∈a,Tr.Arg z t.1 t.2)->(∀t∈b,Tr.Arg z t.1 t.2)->Nz z a b=Ee z a b
 | _,[],_,_=>by simp[Nz,Ee]
 | [],_::_,_,_=>by simp[Nz,Ee]
 | s::ss,t::ts,ha,hb=>by
  rw[Nz,Ee,Tr.rfits_eq e (ha s Fr) (hb t Fr),Pg e ss ts (fun x c=>ha x (by simp[c])) (fun x c=>hb x (by simp[c]))]
def Bd6(T:TI)(t x:Int×Int):∀(a b:TP),a.length=b.length->Ee T (a++[t]) (b++[x])=(Ee T a b&&Tr.fitsB T t.1 t.2 x.1 x.2)
 | [],[],_=>by simp[Ee]
 | [],_::_,h=>by simp at h
 | _::_,[],h=>by simp at h
 | s::ss,y::ys,h=>by
  simp only[Bws,Ee];rw[Bd6 T t x ss ys (by simpa using h),Bool.and_assoc]
def Bi5(b:Ea):(Bi b).2.lo=b.lo:=by unfold Bi;split<;>rfl
def Bhh(T:TI)(t x:Int×Int)(b:Ea):(Wo T t x b).lo=b.lo/\(Wo T t x b).st=b.st/\(Wo T t x b).br=(b.br || !Tr.fitsB T t.1 t.2 x.1 x.2):=by
 unfold Wo;cases Tr.fitsB T t.1 t.2 x.1 x.2<;>simp
def Az{α:Type}(l:List α)(d:α)(h:l.length≠0):l=l.take (l.length-1)++[l.getD (l.length-1) d]:=by
 have b:l.length-1<l.length:=Bd;have:=Bvs b;rw[show l.length-1+1=l.length by omega,Byk]at this;rw[Th,Ws b];exact this
def Bdw(T:TI)(l:TP):∀(k:Nat) (b:Ea),b.br=true->(Gf T l k b).br=true
 | 0,b,h=>h
 | k+1,b,h=>by
  unfold Gf;refine Bdw T l k _ ?_;rw[(Bhh _ _ _ _).2.2];have:(Bi b).2.br=true:=by unfold Bi;split<;>simp[h]
  rw[this];rfl
def Bal(T:TI)(l:TP):∀(k:Nat),k<=l.length->∀(b:Ea),(Gf T l k b).lo=b.lo /\
  (k<=b.st.length->(Gf T l k b).st=b.st.take (b.st.length-k)/\(Gf T l k b).br=(b.br || !Ee T (b.st.drop (b.st.length-k)) (l.take k))) /\
  (b.st.length<k->(Gf T l k b).br=true)
 | 0,_,b=>by
  refine⟨rfl,fun _=>⟨?_,?_⟩,fun h=>Bd⟩
  ·simp[Gf]
  simp[Gf,Ee]
 | k+1,hk,b=>by
  have m:k<l.length:=Bd;unfold Gf;obtain⟨c,f,g⟩:=Bal T l k Bd (Wo T (Bi b).1 (l.getD k (0,0)) (Bi b).2);obtain⟨s,p,q⟩:=Bhh T (Bi b).1 (l.getD k (0,0)) (Bi b).2;rw[s,Bi5]at c;rw[p,q]at f;rw[p]at g;by_cases i:b.st.length=0
  ·refine⟨c,fun h=>Bd,fun _=>?_⟩;have e:Bi b=((0,0),⟨b.lo,b.st,true⟩):=by unfold Bi;rw[Sp i]
   refine Bdw _ _ _ _ ?_;rw[q,e];rfl
  have e:Bi b=(b.st.getD (b.st.length-1) (0,0),⟨b.lo,b.st.take (b.st.length-1),b.br⟩):=by unfold Bi;rw[Pf i]
  rw[e]at c f g ⊢;simp only at c f g ⊢;have j:(b.st.take (b.st.length-1)).length=b.st.length-1:=Fr;rw[j]at f g;refine⟨c,fun h=>?_,fun h=>g Bd⟩;obtain⟨t,v⟩:=f Bd;refine⟨?_,?_⟩
  ·rw[t,Bxu]
   congr 1;omega
  rw[v];have z:=Az b.st (0,0) i;have A:b.st.drop (b.st.length-(k+1))=(b.st.take (b.st.length-1)).drop (b.st.length-1-k)++[b.st.getD (b.st.length-1) (0,0)]:=by
   conv=>lhs;rw[z]
   rw[Up,j,Bxz (by rw[j];simp)]
   congr 2
   simp only[Bw0];omega
  have B:l.take (k+1)=l.take k++[l.getD k (0,0)]:=by
   rw[Bvs m,Th,Ws m];rfl
  rw[A,B,Bd6 _ _ _ _ _ Fm];cases b.br<;>cases Ee T (List.drop (b.st.length-1-k) (List.take (b.st.length-1) b.st)) (List.take k l)<;>simp
def Zu(f:Tr.Ok z)(l:TP)(b:Ea)(g:∀t∈b.st,Tr.Arg z t.1 t.2)(i:∀t∈l,Tr.Arg z t.1 t.2):(Gu z l b).lo=b.lo/\(Ig z b.st l=true->(Gu z l b).st=b.st.take (b.st.length-l.length)/\(Gu z l b).br=b.br)/\(Ig z b.st l=false->(Gu z l b).br=true):=by
 obtain⟨p,j,q⟩:=Bal z l l.length (Wf _) b;unfold Gu Ig;refine⟨p,fun h=>?_,fun h=>?_⟩
 ·by_cases c:b.st.length<l.length;·rw[Sp c]at h;cases h
  rw[Pf c,Pg f _ _ (fun t e=>g t (Bxe e)) i]at h;obtain⟨m,g2⟩:=j Bd;refine⟨m,?_⟩;rw[g2,Byk,h];simp
 by_cases c:b.st.length<l.length;·exact q c
 rw[Pf c,Pg f _ _ (fun t e=>g t (Bxe e)) i]at h;obtain⟨m,g2⟩:=j Bd;rw[g2,Byk,h];simp
def Rr{C:Int×Int}{b:Ea}(h:b.br=true):(Es c C b).br=true:=by unfold Es;split<;>simp[h]
def Bav:∀{l:TP}{b:Ea},b.br=true->(Hf c l b).br=true
 | [],_,h=>h
 | _::r,_,h=>Bav (l:=r) (Rr h)
def Bi6{b:Ea}(h:b.br=true):(Bi b).2.br=true:=by unfold Bi;split<;>simp[h]
def Xx{b:Ea}(h:b.br=true):Fo b=none:=by unfold Fo;rw[Sp h]
def Bt6{b:Ea}(h:b.br=false):Fo b=some ⟨b.lo,b.st⟩:=by unfold Fo;rw[h];rfl
def Kb(a b:Int×Int)(l:TP):(Er a b l).length=l.length:=by simp[Er]
def Bos(Q:Tr.Ok z)(i:Int)(l lv want:TP)(isNew:Int->Bool)(arg:Int->Int)(p op n:Int)(x:Be) (V:∀t∈x.stack,Tr.Arg z t.1 t.2)(a5:∀t∈l,Tr.Arg z t.1 t.2)(a6:∀t∈want,Tr.Arg z t.1 t.2)(a7:lv.length<=1)(b3:(x.stack.length:Int)<=i) (Y:op=2\/op=3->0<=n/\n<(x.locals.length:Int))(a8:op=16->∀t∈x.stack,t.1=4->(isNew t.2=true<->arg t.2=n)):Nv z i l lv want isNew p op n x=Gt i (Mz z l lv want arg p op n x):=by
 unfold Nv Zd Mz;by_cases q:op=2
 ·rw[Sp q,Sp q];obtain⟨a1,L⟩:=Y (.inl q);unfold X8;rw[Pf Bd,Pf (by simpa using L)];by_cases D:(x.locals.getD n.toNat (0,0)).1=0;·rw[Sp D,Sp D];rfl
  rw[Pf D,Pf D];unfold Es Gt;by_cases f:i<=(x.stack.length:Int);·rw[Sp f];simp[Fo];omega
  rw[Pf f];simp[Fo];omega
 rw[Pf q,Pf q];by_cases s:op=3
 ·rw[Sp s,Sp s];obtain⟨a1,L⟩:=Y (.inr s);unfold Wn;rw[Pf Bd,Pf (by simpa using L)];unfold Bi;by_cases c:x.stack.length=0;·rw[Sp (show x.stack.length<1 by omega)];simp[c,Fo,Gt]
  rw[Pf (show ¬x.stack.length<1 by omega)];simp only[c,Bxk];simp[Fo,Gt];omega
 rw[Pf s,Pf s];by_cases F:op=4
 ·rw[Sp F,Sp F];unfold Bi;by_cases c:x.stack.length=0;·rw[Sp (show x.stack.length<1 by omega)];simp[c,Fo,Gt]
  rw[Pf (show ¬x.stack.length<1 by omega)];simp only[c,Bxk];simp[Fo,Gt];omega
 rw[Pf F,Pf F];by_cases G:op=5
 ·rw[Sp G,Sp G];unfold Bht Bi;by_cases c:x.stack.length=0;·rw[Sp (show x.stack.length<1 by omega)];rw[Xx (Rr (Rr (by simp[c])))];rfl
  rw[Pf (show ¬x.stack.length<1 by omega)];simp only[c,Bxk];have Z:=Az x.stack (0,0) c;have a9:x.stack.drop (x.stack.length-1)=[x.stack.getD (x.stack.length-1) (0,0)]:=by
   conv=>lhs;rw[Z]
   rw[Bxz Fr];simp
  rw[a9];have N:Es i (x.stack.getD (x.stack.length-1) (0,0)) ⟨x.locals,x.stack.take (x.stack.length-1),false⟩=⟨x.locals,x.stack,false⟩:=by
   unfold Es;rw[Pf Fm];simp only[<- Z]
  rw[N];unfold Es Gt;by_cases f:i<=(x.stack.length:Int);·rw[Sp f];simp[Fo];omega
  rw[Pf f];simp[Fo];omega
 rw[Pf G,Pf G];by_cases I:op=6
 ·rw[Sp I,Sp I];unfold Bdm;by_cases c:x.stack.length=0
  ·rw[Sp (show x.stack.length<2 by omega)];have:(Bi ⟨x.locals,x.stack,false⟩).2.br=true:=by unfold Bi;simp[c]
   rw[Xx (Rr (Rr (Bi6 this)))];rfl
  have N:Bi ⟨x.locals,x.stack,false⟩=(x.stack.getD (x.stack.length-1) (0,0),⟨x.locals,x.stack.take (x.stack.length-1),false⟩):=by unfold Bi;simp only[c,Bxk]
  rw[N];simp only;by_cases a0:x.stack.length<2
  ·rw[Sp a0];have:(Bi ⟨x.locals,x.stack.take (x.stack.length-1),false⟩).2.br=true:=by unfold Bi;rw[Sp Fm]
   rw[Xx (Rr (Rr this))];rfl
  rw[Pf a0];have e2:Bi ⟨x.locals,x.stack.take (x.stack.length-1),false⟩=(x.stack.getD (x.stack.length-2) (0,0),⟨x.locals,x.stack.take (x.stack.length-2),false⟩):=by
   unfold Bi;rw[Pf Fm];simp only[Bxf,Bxu,Th,Bww];rw[show min (x.stack.length-1) x.stack.length-1=x.stack.length-2 by omega,Sp Bd,show min (x.stack.length-2) (x.stack.length-1)=x.stack.length-2 by omega]
  rw[e2];simp only;unfold Es;have l1:¬i<=((x.stack.take (x.stack.length-2)).length:Int):=Fm;rw[Pf l1];have l2:¬i<=((x.stack.take (x.stack.length-2)++[x.stack.getD (x.stack.length-1) (0,0)]).length:Int):=Fm;simp only[l2,Bxk];simp[Fo,Gt];omega
 rw[Pf I,Pf I];by_cases J:op=15
 ·rw[Sp J,Sp J];unfold Mt Es Gt;simp only[Kb];by_cases f:i<=(x.stack.length:Int);·rw[Sp f];simp[Fo,Kb];omega
  rw[Pf f];simp[Fo,Kb];omega
 rw[Pf J,Pf J];by_cases v:op=16
 ·rw[Sp v,Sp v];obtain⟨m,g2,g3⟩:=Zu Q want ⟨x.locals,x.stack,false⟩ V a6;unfold Au Yh;simp only at m g2 g3;cases j:Ig z x.stack want with
  | false =>
   have:∀t (b:Ea),b.br=true->Fo (Tm isNew n t b)=none:=by
    intro t b O;unfold Tm Mt
    split
    ·rfl
    split
    ·rfl
    exact Xx O
   rw[this _ _ (Bi6 (g3 j))];simp[Gt]
  | true =>
   obtain⟨A,B⟩:=g2 j;have b4:want.length<=x.stack.length:=by
    unfold Ig at j;by_cases h:x.stack.length<want.length;·rw[Sp h]at j;cases j
    omega
   rw[Pf Fr];generalize O:Gu z want ⟨x.locals,x.stack,false⟩=b at *;obtain⟨b0,b1,b2⟩:=b;simp only at m A B;subst m A B;by_cases c:x.stack.length<want.length+1
   ·rw[Sp c];have e:Bi ⟨x.locals,x.stack.take (x.stack.length-want.length),false⟩=((0,0),⟨x.locals,x.stack.take (x.stack.length-want.length),true⟩):=by
     unfold Bi;rw[Sp Fm]
    rw[e];simp[Tm,Fo,Gt]
   rw[Pf c];have a3:x.stack.length-want.length-1<x.stack.length:=Bd;have e:Bi ⟨x.locals,x.stack.take (x.stack.length-want.length),false⟩=(x.stack.getD (x.stack.length-want.length-1) (0,0),⟨x.locals,x.stack.take (x.stack.length-want.length-1),false⟩):=by
    unfold Bi;rw[Pf Fm];simp only[Bxf,Bxu,Th,Bww];rw[show min (x.stack.length-want.length) x.stack.length-1=x.stack.length-want.length-1 by omega,Sp Bd,show min (x.stack.length-want.length-1) (x.stack.length-want.length)=x.stack.length-want.length-1 by omega]
   rw[e];simp only;have hm:x.stack.getD (x.stack.length-want.length-1) (0,0)∈x.stack:=by
    rw[Th,Ws a3];exact Bvh a3
   generalize x.stack.getD (x.stack.length-want.length-1) (0,0)=t at *;unfold Tm;by_cases C:t.1=4
   ·rw[Pf (show ¬t.1≠4 from fun g=>g C),Pf (show ¬t.1≠4 from fun g=>g C)];have a4:=a8 v t hm C;by_cases K:arg t.2=n;·rw[a4.2 K,Pf Fr,Pf (show ¬arg t.2≠n from fun g=>g K)];unfold Mt Gt;simp[Fo,Kb];omega
    have:isNew t.2=false:=by
     cases h:isNew t.2
     ·rfl
     exact absurd (a4.1 h) K
    rw[Sp this,Sp K];rfl
   rw[Sp C,Sp C];rfl
 rw[Pf v,Pf v];obtain⟨m,g2,g3⟩:=Zu Q l ⟨x.locals,x.stack,false⟩ V a5;simp only at m g2 g3;cases j:Ig z x.stack l with
 | false=>rw[Sp rfl,Xx (Bav (g3 j))];rfl
 | true =>
  obtain⟨A,B⟩:=g2 j;rw[Pf Fr];generalize O:Gu z l ⟨x.locals,x.stack,false⟩=b at *;obtain⟨b0,b1,b2⟩:=b;simp only at m A B;subst m A B
  match lv,a7 with
  | [],_ =>
   simp[Hf,Fo,Gt];omega
  | [t],_ =>
   simp only[Hf,Es];by_cases f:i<=((x.stack.take (x.stack.length-l.length)).length:Int);·rw[Sp f];simp at f;simp[Fo,Gt];omega
   rw[Pf f];simp at f;simp[Fo,Gt];omega
def Ec (n:Int):List (List (Int × Int))->Int->Int->Int × Int
 | [],_,_=>(-1,0)
 | own::r,c,f=>if f<=n/\n-f<(own.length:Int) then (c,n-f) else Ec n r (c+1) (f+(own.length:Int))
def Nh (fs:List (List (Int × Int)))(c:Int):List (Int × Int):=if c<0 then [] else fs.getD c.toNat []
def Lf (fs:List (List (Int × Int)))(n:Int):Int × (Int × Int) :=
 if (Ec n fs 0 0).2<0 then (-1,(0,0)) else if ((Nh fs (Ec n fs 0 0).1).length:Int)<=(Ec n fs 0 0).2 then (-1,(0,0))
 else ((Ec n fs 0 0).1,(Nh fs (Ec n fs 0 0).1).getD (Ec n fs 0 0).2.toNat (0,0))
def Fb (T:TI)(fs:List (List (Int × Int)))(c:Int):Nat->List (Int × Int)
 | 0=>[]
 | d+1=>Fb T fs c d++(if Tr.within T c (d:Int)=true then fs.getD d [] else [])
def Dq (T:TI)(fs:List (List (Int × Int)))(c:Int):List (Int × Int):=Fb T fs c fs.length
def U9(c:Tr.Ok z){a B:Int}(e:0<=a)(f:a<(z.length:Int))(g:0<=B):Tr.within z a B=Tr.rbel z a B:=by
 refine Bool.eq_iff_iff.2 ?_;rw[Tr.rbel_iff c e f g];unfold Tr.within Tr.At;simp only[B0e,By9];exact⟨fun h=>h.imp Eq.symm id,fun h=>h.imp Eq.symm id⟩
def Bdp(c:Tr.Ok z){a B:Int}(f:0<=a)(e:a<(z.length:Int))(g:a<B):Tr.within z a B=false:=by
 unfold Tr.within;cases h:Tr.below z a B
 ·simp;omega
 have:=Tr.below_lt c Bd e h;omega
def Ba3(e:Tr.Ok z)(b:List Rd.Cls)(f:0<=c)(g:c<(z.length:Int)):∀d:Nat,Fb z (b.map Rd.Cls.fields) c d=Rf.allTo z b c d
 | 0=>rfl
 | d+1=>by
  rw[Fb,Rf.allTo,Ba3 e b f g d,U9 e f g Bd]
  congr 2
  rw[Th,Th,Bv8];cases b[d]? <;> rfl
def Ba4(e:Tr.Ok z)(b:List (List (Int×Int))){c:Nat}(f:(c:Int)<(z.length:Int)):∀d:Nat,Fb z b (c:Int) (c+1+d)=Fb z b (c:Int) (c+1)
 | 0=>rfl
 | d+1=>by
  rw[<- Byc,Fb,Ba4 e b f d,Bdp e Bd f Bd];simp
def Xm(e:Tr.Ok z)(b:List Rd.Cls)(f:b.length=z.length){c:Nat}(g:c<z.length):Dq z (b.map Rd.Cls.fields) (c:Int)=Rf.all z b c:=by
 unfold Dq Rf.all;rw[<- Ba3 e b Bd Bd,Bvr];have:=Ba4 e (b.map Rd.Cls.fields) (c:=c) Bd (b.length-(c+1));rw[show c+1+(b.length-(c+1))=b.length by omega]at this;exact this
def Bgm(c b:Int)(own:TP):∀(k i:Nat),i<k->(Rf.ownTo c b own k).getD i ⟨0,0,(0,0)⟩=⟨c,b+(i:Int),own.getD i (0,0)⟩
 | 0,_,h=>Bd
 | k+1,i,h=>by
  rw[Rf.ownTo];by_cases e:i<k;·rw[Th,Bvy (by rw[Oz];exact e),<- Th];exact Bgm c b own k i e
  have:i=k:=Bd;subst this;rw[Th,Bvt (by rw[Oz];omega),Oz];simp
def Rf.fieldsAt(T:TI)(cs:List Rd.Cls):Nat->Nat->List Rf.Fld
 | _,0=>[]
 | c,j+1=>Rf.ownOf T cs c++Rf.fieldsAt T cs (c+1) j
def Zn(T:TI)(b:List Rd.Cls):∀(j c:Nat),Rf.fieldsAt T b c (j+1)=Rf.fieldsAt T b c j++Rf.ownOf T b (c+j)
 | 0,c=>by simp[Rf.fieldsAt]
 | j+1,c=>by
  rw[Rf.fieldsAt,Zn T b j (c+1),Rf.fieldsAt,Bwe,show c+1+j=c+(j+1) by omega]
def Ba5(T:TI)(b:List Rd.Cls):∀j:Nat,Rf.fieldsTo T b j=Rf.fieldsAt T b 7 j
 | 0=>rfl
 | j+1=>by rw[Rf.fieldsTo,Ba5 T b j,Zn]
def Bgl(T:TI)(b:List Rd.Cls)(n:Nat):∀(j c f:Nat),c+j=b.length->f<=n->n-f<(Rf.fieldsAt T b c j).length ->
  ∃q:Nat,c<=q/\q<b.length/\∃i:Nat,i<(b.getD q ⟨0,[]⟩).fields.length/\Ec (n:Int) ((b.drop c).map Rd.Cls.fields) (c:Int) (f:Int)=((q:Int),(i:Int)) /\
   (Rf.fieldsAt T b c j).getD (n-f) ⟨0,0,(0,0)⟩=⟨(q:Int),((Rf.all T b q).length:Int)-(((b.getD q ⟨0,[]⟩).fields.length:Nat):Int)+(i:Int),(b.getD q ⟨0,[]⟩).fields.getD i (0,0)⟩
 | 0,c,f,hc,hf,h=>by simp[Rf.fieldsAt]at h
 | j+1,c,f,hc,hf,h=>by
  have g:c<b.length:=Bd;rw[Wr g,Bwm,Ec];have l:b.getD c ⟨0,[]⟩=b[c]:=by rw[Th,Ws g];rfl
  have e:(Rf.ownOf T b c).length=b[c].fields.length:=by rw[Rf.ownOf,Oz,l]
  rw[Rf.fieldsAt]at h ⊢;by_cases m:n-f<b[c].fields.length
  ·refine⟨c,Wf _,g,n-f,by rw[l];exact m,?_,?_⟩
   ·rw[Sp Bd]
    congr 1;omega
   rw[Th,Bvy (by rw[e];exact m),<- Th,Rf.ownOf,Bgm _ _ _ _ _ (by rw[l];exact m)]
  rw[Pf Bd];obtain⟨q,z,p,i,s,t,v⟩:=Bgl T b n j (c+1) (f+b[c].fields.length) Bd Bd (by rw[Up,e]at h;omega);refine⟨q,Bd,p,i,s,?_,?_⟩
  ·rw[<- t];push_cast;rfl
  rw[Th,Bvt (by rw[e];omega),<- Th,e,<- v];congr 1;omega
def Bd9(n:Int)(r:List (List (Int×Int)))(f:Int):∀(k:Nat) (c:Int),Ec n (List.replicate k []++r) c f=Ec n r (c+(k:Int)) f
 | 0,c=>Fr
 | k+1,c=>by
  rw[List.replicate_succ,Bws,Ec,Pf Fr];simp only[Bwn];rw[show f+((0:Nat):Int)=f by omega,Bd9 n r f k (c+1)]
  congr 1;omega
def Bgj(T:TI)(b:List Rd.Cls)(t:7<=b.length)(f:∀i,i<7->(b.getD i ⟨0,[]⟩).fields=[])(n:Nat)(c:n<(Rf.fieldsTo T b (b.length-7)).length):∃q:Nat,7<=q/\q<b.length/\∃i:Nat,i<(b.getD q ⟨0,[]⟩).fields.length/\Ec (n:Int) (b.map Rd.Cls.fields) 0 0=((q:Int),(i:Int))/\Nh (b.map Rd.Cls.fields) (q:Int)=(b.getD q ⟨0,[]⟩).fields/\(Rf.fieldsTo T b (b.length-7)).getD n ⟨0,0,(0,0)⟩=⟨(q:Int),((Rf.all T b q).length:Int)-(((b.getD q ⟨0,[]⟩).fields.length:Nat):Int)+(i:Int),(b.getD q ⟨0,[]⟩).fields.getD i (0,0)⟩:=by
 rw[Ba5]at c ⊢;obtain⟨q,g,h,i,j,l,m⟩:=Bgl T b n (b.length-7) 7 0 Bd Bd (by simpa using c);have e:b.map Rd.Cls.fields=List.replicate 7 []++(b.drop 7).map Rd.Cls.fields:=by
  conv=>lhs;rw[<- Bxm 7 b,Bvx]
  congr 1
  apply Bz4
  ·simp;omega
  intro i v p;have s:i<7:=by simpa using p
  have:=f i s;rw[Th,Ws Bd]at this;rw[List.getElem_map,List.getElem_take,List.getElem_replicate];simpa using this
 refine⟨q,g,h,i,j,by rw[e,Bd9];exact l,?_,m⟩;unfold Nh;rw[Pf Bd,Th,Bv8,Th,Bvn];cases b[q]? <;> rfl
def Bbo(T:TI)(b:List Rd.Cls)(c:7<=b.length)(e:∀i,i<7->(b.getD i ⟨0,[]⟩).fields=[])(n:Nat)(f:n<(Rf.fieldsTo T b (b.length-7)).length):Lf (b.map Rd.Cls.fields) (n:Int)=(((Rf.fieldsTo T b (b.length-7)).getD n ⟨0,0,(0,0)⟩).owner,((Rf.fieldsTo T b (b.length-7)).getD n ⟨0,0,(0,0)⟩).t):=by
 obtain⟨q,_,_,i,l,g,h,j⟩:=Bgj T b c e n f;unfold Lf;rw[g];simp only;rw[Pf Bd,h,Pf Bd,Bvn,j]
def Dj (T:TI)(isN:Int->Prop)(t:Int × Int):Prop:=Tr.Arg T t.1 t.2/\(t.1=4->isN t.2)
structure J6(T:List Int)(lo:Nat)(hi:Int)(isN:Int->Prop)(x:Be):Prop where
 lo:x.locals.length=lo
 hi:(x.stack.length:Int)<=hi
 tl:∀t∈x.locals,Dj T isN t
 ts:∀t∈x.stack,Dj T isN t
def Ba9(T:TI)(b:Int->Prop):Dj T b (0,0):=⟨.inl ⟨rfl,rfl⟩,fun h=>absurd h Ck⟩
def Wy{c:Int->Prop}{a b:Int×Int}{q:TP}(f:Dj z c b)(h:∀t∈q,Dj z c t):∀t∈Er a b q,Dj z c t:=by
 intro t e;unfold Er at e;obtain⟨y,g,rfl⟩:=List.mem_map.1 e
 split
 ·exact f
 exact h y g
def Hu{α:Type}{l:List α}{d:α}(h:u<l.length):l.getD u d∈l:=by
 rw[Th,Ws h];exact Bvh h
def Yu{α:Type}{l:List α}{d t:α}(h:t∈l.set u d):t∈l\/t=d:=by
 rcases Bw6 h with h|h
 ·exact .inl h
 exact .inr h
def Bpq{T:TI}{g:Int->Prop}(v lv A:TP)(arg:Int->Int)(p op n:Int)(x y:Be)(f:J6 T u c g x) (I:∀t∈lv,Dj T g t)(J:op=2->0<=n/\n<(u:Int))(K:op=15->Dj T g (4,p))(L:op=16->0<=n/\n<(T.length:Int)) (h:Gt c (Mz T v lv A arg p op n x)=some y):J6 T u c g y:=by
 unfold Gt at h;cases b:Mz T v lv A arg p op n x with
 | none=>rw[b]at h;cases h
 | some z =>
  rw[b]at h;simp only[Bx1]at h;by_cases j:(z.stack.length:Int)<=c
  ·rw[Sp j]at h;obtain rfl:=Option.some.inj h
   suffices l:z.locals.length=u/\(∀t∈z.locals,Dj T g t)/\(∀t∈z.stack,Dj T g t) from ⟨l.1,j,l.2.1,l.2.2⟩
   have i:∀k,∀t∈x.stack.take k,Dj T g t:=fun k t e=>f.ts t (B0w e);unfold Mz at b;by_cases m:op=2
   ·rw[Sp m]at b
    split at b
    ·cases b
    obtain rfl:=Option.some.inj b;refine⟨f.lo,f.tl,fun t e=>?_⟩;rcases List.mem_append.1 e with e|e
    ·exact f.ts t e
    obtain rfl:=List.mem_singleton.1 e;have:=J m;exact f.tl _ (Hu (by have:=f.lo;omega))
   rw[Pf m]at b;by_cases B:op=3
   ·rw[Sp B]at b
    split at b
    ·cases b
    rename_i N;obtain rfl:=Option.some.inj b;refine⟨by simpa using f.lo,fun t e=>?_,fun t e=>i _ t e⟩;rcases Yu e with e|rfl
    ·exact f.tl t e
    exact f.ts _ (Hu Bd)
   rw[Pf B]at b;by_cases C:op=4
   ·rw[Sp C]at b
    split at b
    ·cases b
    obtain rfl:=Option.some.inj b;exact⟨f.lo,f.tl,fun t e=>i _ t e⟩
   rw[Pf C]at b;by_cases D:op=5
   ·rw[Sp D]at b
    split at b
    ·cases b
    obtain rfl:=Option.some.inj b;refine⟨f.lo,f.tl,fun t e=>?_⟩;rcases List.mem_append.1 e with e|e
    ·exact f.ts t e
    exact f.ts t (Bxe e)
   rw[Pf D]at b;by_cases F:op=6
   ·rw[Sp F]at b
    split at b
    ·cases b
    rename_i N;obtain rfl:=Option.some.inj b;refine⟨f.lo,f.tl,fun t e=>?_⟩;rcases List.mem_append.1 e with e|e
    ·exact i _ t e
    simp only[Bxy,Bx9,Bz2]at e;rcases e with rfl|rfl
    ·exact f.ts _ (Hu Bd)
    exact f.ts _ (Hu Bd)
   rw[Pf F]at b;by_cases q:op=15
   ·rw[Sp q]at b;obtain rfl:=Option.some.inj b;refine⟨by rw[Kb];exact f.lo,Wy (Ba9 T g) f.tl,fun t e=>?_⟩;rcases List.mem_append.1 e with e|e
    ·exact Wy (Ba9 T g) f.ts t e
    obtain rfl:=List.mem_singleton.1 e;exact K q
   rw[Pf q]at b;by_cases s:op=16
   ·rw[Sp s]at b;have G:Dj T g (3,n):=⟨.inr (.inr (.inr (.inl ⟨rfl,L s⟩))),fun h=>absurd h Fr⟩;unfold Yh at b
    split at b
    ·cases b
    split at b
    ·cases b
    split at b
    ·cases b
    split at b
    ·cases b
    obtain rfl:=Option.some.inj b;exact⟨by rw[Kb];exact f.lo,Wy G f.tl,Wy G (i _)⟩
   rw[Pf s]at b
   split at b
   ·cases b
   obtain rfl:=Option.some.inj b;refine⟨f.lo,f.tl,fun t e=>?_⟩;rcases List.mem_append.1 e with e|e
   ·exact i _ t e
   exact I t e
  rw[Pf j]at h;cases h
def Mk (mp:Nat->Option Be)(rl:Nat->Be->Option Be)(go:Nat->Bool)(p:Nat)(o:Option Be):Option Be :=
 ((mp p).or o).bind fun x=>(rl p x).bind fun z=>if go p=true then some z else none
def Ry (mp:Nat->Option Be)(rl:Nat->Be->Option Be)(go:Nat->Bool)(q:Nat):List Nat->Option Be->Option Be
 | [],o=>o
 | p::r,o=>if q<p then o else if p=q then (mp p).or o else Ry mp rl go q r (Mk mp rl go p o)
def Lm (ah:Nat->Option Be)(lk:Nat->Be->Int):List Nat->Int × Int
 | []=>(0,0)
 | p::r=>match ah p with
  | none=>Lm ah lk r
  | some x=>if lk p x≠0 then (lk p x,(p:Int)) else Lm ah lk r
def Ty (mp:Nat->Option Be)(rl:Nat->Be->Option Be)(go:Nat->Bool)(lk:Nat->Be->Int):List Nat->Option Be->Int × Int
 | [],_=>(0,0)
 | p::r,o=>match (mp p).or o with
  | none=>Ty mp rl go lk r none
  | some x=>if lk p x≠0 then (lk p x,(p:Int)) else Ty mp rl go lk r (Mk mp rl go p o)
def Ar(mp:Nat->Option Be)(b:Nat->Be->Option Be)(c:Nat->Bool)(q:Nat)(r:List Nat):∀(d:List Nat) (o:Option Be),(∀p∈d,p<q) ->
  Ry mp b c q (d++q::r) o=(mp q).or (d.foldl (fun o p=>Mk mp b c p o) o)
 | [],o,_=>by simp[Ry]
 | p::d,o,h=>by
  have f:=h p Fr;rw[Bws,Ry,Pf Bd,Pf Bd,Ar mp b c q r d _ (fun x e=>h x (by simp[e]))];rfl
def Ag(mp:Nat->Option Be)(b:Nat->Be->Option Be)(c:Nat->Bool)(f:Nat->Be->Int)(e:Option Be):∀(r d:List Nat),(d++r).Pairwise (· < ·) ->
  Lm (fun q=>Ry mp b c q (d++r) e) f r=Ty mp b c f r (d.foldl (fun o p=>Mk mp b c p o) e)
 | [],d,_=>by simp[Lm,Ty]
 | p::r,d,h=>by
  have i:∀q∈d,q<p:=fun q j=>(List.pairwise_append.1 h).2.2 q j p Fr;have g:=Ag mp b c f e r (d++[p]) (by simpa using h);rw[Bwe,List.singleton_append,List.foldl_append]at g;simp only[List.foldl_cons,List.foldl_nil]at g;rw[Lm,Ty,Ar mp b c p r d e i,g];generalize List.foldl (fun o p=>Mk mp b c p o) e d=o;cases l:(mp p).or o with
  | none =>
   have:Mk mp b c p o=none:=by unfold Mk;rw[l];rfl
   simp only[this]
  | some x=>rfl
def Nq (T:TI)(mp:Int->Option Be)(H:Int)(R:Option Be)(op n nxt len:Int):Int :=
 if H≠0 then H else if R.isSome=false then 10
 else if Dx op=true/\(mp n).isSome=false then 8
 else if Dx op=true/\Dk T (Ef R) (Ef (mp n))=false then 9
 else if Dz op=false then 0 else if len<=nxt then 11
 else if (mp nxt).isSome=true/\Dk T (Ef R) (Ef (mp nxt))=false then 9 else 0
def Dm{s j:Nat}{i:TX}(h:j≠u):(w.setCell (.a u s) i).heap[j]?=w.heap[j]?:=Bvg _ _ _ _ (by simpa using h)
def Rp{x y:TX}{ty:TypeId}(h:w.heap[u]?=some (.cells #[x,y] ty (0,0)))(s t:TX):((w.setCell (.a u 0) s).setCell (.a u 1) t).heap[u]?=some (.cells #[s,t] ty (0,0)):=by
 have b:(w.setCell (.a u 0) s).heap[u]?=some (.cells #[s,y] ty (0,0)):=by rw[Bq h];rfl
 rw[Bq b];rfl
def On{s:Nat}{i t:TX}(h:s≠u):((w.setCell (.a u 0) i).setCell (.a u 1) t).heap[s]?=w.heap[s]?:=(Dm h).trans (Dm h)
def FrV.is.set2{v:FrV}{x:Be}{l e:TA}{s j K f:Nat}{ty:TypeId}(h:v.is x w)(c:w.heap[u]?=some (.cells #[.s l s j,.s e K f] ty (0,0)))(b t:TX):v.is x ((w.setCell (.a u 0) b).setCell (.a u 1) t):=⟨h.lo.set_frame c b t,h.st.set_frame c b t,h.hl,h.hs⟩
def Vi (T:TI)(m0:Option Be)(x0:Be)(ah:Nat->Option Be)(lk:Nat->Be->Int)(ps:List Nat):Int × Int :=
 if m0.isSome=true/\Dk T x0 (Ef m0)=false then (9,0) else Lm ah lk ps
variable {aa:Option Addr}{an ac:Nat}
def Np (w:TW)(b:Nat)(v:TX)(l:List (Value × List (Int × Int))):Prop:=w.ownsRow b 105 1 v l.length (l.map Prod.fst)/\∀p∈l,TyR w p.1 p.2
def Np.below{b:TW}{i:TX}(h:Np w u i l)(c:Bl w b):Np b u i l :=
 ⟨Cx h.1 (Kp.of_below (e:=none) c) Ck,fun p f=>(h.2 p f).below c⟩
theorem Np.at{w:World}{a:Option Addr}{n j:Nat}(h:Np w u (.slice a n j) l)(i:k<l.length):∃g,a=some ⟨g,0,none⟩/\g<w.heap.size/\∃e f,w.cell? ⟨g,k,none⟩=some (.slice e l[k].2.length f)/\TyR w (.slice e l[k].2.length f) l[k].2:=by
 obtain⟨g,q,s,_,t⟩:=Cf h.1 Bd;have m:=h.2 l[k] (Bvh i);obtain⟨e,f,p⟩:=m.shape;rw[p]at m;refine⟨g,q,s,e,f,?_,m⟩;rw[t k (by simpa using i),Bv8,Ws i];exact congrArg some p
def Bea(l:List (Value×List (Int×Int)))(z:Nat)(ya:TA)(yc:Nat)(n:Int)(w:TW)(G:l.length<=1000)(I:0<=n/\n<=100000)(A:∀p∈l,p.2.length<=1000)(hF:Np w z (.s ya l.length yc) l):Calls prog 300 #[.agg #[.s aa an ac,.s ya l.length yc],.i n] w fun e B => e=.r (.tuple #[.i (Ec n (l.map Prod.snd) 0 0).1,.i (Ec n (l.map Prod.snd) 0 0).2])/\Bl w B:=by
 generalize b:Ec n (l.map Prod.snd) 0 0=r;have c:Hid (Ec n ((l.map Prod.snd).drop 0) ((0:Nat):Int) ((0:Nat):Int)=r):=b;clear b;have h:Bl w (w.alloc (O2 aa an ac ya l.length yc)):=QN _;go_in;go_wp2
 go_loopw [6,12] (fun f v wr=>∃(k s:Nat),k<=l.length/\s<=1000*k/\f=.i (s:Int)/\v=.i (k:Int)/\Hid (Ec n ((l.map Prod.snd).drop k) (k:Int) (s:Int)=r)/\wr=w.alloc (O2 aa an ac ya l.length yc))
  (fun _ v _=>l.length-(intOf v).toNat)
 case atStart=>exact⟨0,0,Bd,Bd,rfl,rfl,c,rfl⟩
 case round=>
  clear c;obtain⟨k,s,J,K,rfl,rfl,c,rfl⟩:=hrel;by_cases j:k<l.length
  ·obtain⟨g,rfl,L,N,O,Q,-⟩:=(hF.below h).at j;have t:(l.map Prod.snd).drop k=l[k].2::(l.map Prod.snd).drop (k+1):=by rw[Wr (by simpa using j)];simp
   have b:=Ba c;have V:=A l[k] (Bvh j);rw[t,Ec]at b;generalize l[k].2=own at *;have C:(k:Int)<(l.length:Int):=Bd;clear c t;by_cases D:(s:Int)<=n
   ·by_cases F:n-(s:Int)<(own.length:Int);·rw[Sp ⟨D,F⟩]at b;have m:=Bc b;clear b;go_wp2;go_ret2;exact⟨by rw[<- Ba m];rfl,h⟩
    rw[Pf Bd]at b;have q:Hid (Ec n ((l.map Prod.snd).drop (k+1)) ((k+1:Nat):Int) ((s+own.length:Nat):Int)=r):=by unfold Hid;rw[<- b];push_cast;rfl
    clear b;go_wp2;go_roundw
    case rel=>exact⟨k+1,s+own.length,Bd,Bd,Lt,Lt,q,trivial⟩
    case measure=>simp[intOf];omega
   rw[Pf Bd]at b;have q:Hid (Ec n ((l.map Prod.snd).drop (k+1)) ((k+1:Nat):Int) ((s+own.length:Nat):Int)=r):=by unfold Hid;rw[<- b];push_cast;rfl
   clear b;go_wp2;go_roundw
   case rel=>exact⟨k+1,s+own.length,Bd,Bd,Lt,Lt,q,trivial⟩
   case measure=>simp[intOf];omega
  have b:=Ba c;rw[Bvi Fm,Ec]at b;have m:=Bc b;have C:¬(k:Int)<(l.length:Int):=Bd;clear b c;go_wp2;go_ret2;exact⟨by rw[<- Ba m];rfl,h⟩
def Bjc(l:List (Value×List (Int×Int)))(t:Nat)(ya:TA)(yc:Nat)(c:Int)(w:TW)(z:l.length<=1000)(hF:Np w t (.s ya l.length yc) l):Calls prog 301 #[.agg #[.s aa an ac,.s ya l.length yc],.i c] w fun e j => ∃b f,e=.r (.s b (Nh (l.map Prod.snd) c).length f)/\TyR j (.s b (Nh (l.map Prod.snd) c).length f) (Nh (l.map Prod.snd) c)/\Bl w j:=by
 have h:Bl w (w.alloc (O2 aa an ac ya l.length yc)):=QN _;unfold Nh;by_cases m:c<0;·rw[Sp m];go_in;go_wp2;go_ret;exact⟨none,0,rfl,TyR.nil _,h⟩
 rw[Pf m];by_cases A:(l.length:Int)<=c
 ·have e:(l.map Prod.snd).getD c.toNat []=[]:=by rw[Th,Bwz Fm];rfl
  rw[e];go_in;go_wp2;go_ret;exact⟨none,0,rfl,TyR.nil _,h⟩
 obtain⟨q,rfl⟩:=Bvk (show 0<=c by omega);have p:q<l.length:=Bd;obtain⟨g,rfl,B,b,f,C,v⟩:=(hF.below h).at p;have e:(l.map Prod.snd).getD ((q:Nat):Int).toNat []=l[q].2:=by simp[Th,p]
 rw[e];generalize l[q].2=own at *;have D:(q:Int)<(l.length:Int):=Bd;clear e;go_in;go_wp2;go_ret;exact⟨b,f,rfl,v,h⟩
def Bew(l:List (Value×List (Int×Int)))(L:Nat)(ya:TA)(yc:Nat)(n:Int)(w:TW)(V:l.length<=1000)(hn:0<=n/\n<=100000)(hf:∀p∈l,p.2.length<=1000)(hF:Np w L (.s ya l.length yc) l):Calls prog 292 #[.agg #[.s aa an ac,.s ya l.length yc],.i n] w fun e v => e=.r (.tuple #[.i (Lf (l.map Prod.snd) n).1,.agg #[.i (Lf (l.map Prod.snd) n).2.1,.i (Lf (l.map Prod.snd) n).2.2]])/\Bl w v:=by
 have N:=fun v (h:Bl w v)=>Bea (aa:=aa) (an:=an) (ac:=ac) l L ya yc n v V hn hf (hF.below h);have B:=fun c v (h:Bl w v)=>Bjc (aa:=aa) (an:=an) (ac:=ac) l L ya yc c v V (hF.below h);unfold Lf;generalize Ec n (l.map Prod.snd) 0 0=o at *;obtain⟨F,C⟩:=o;have B:=B F;simp only at N B ⊢;generalize Nh (l.map Prod.snd) F=own at *;have HO:=Bc N;have HW:=Bc B;clear N B hF;have Y:=Bx w (O2 aa an ac ya l.length yc) (O7 0 0);have Z:=Cb w (O2 aa an ac ya l.length yc) (O7 0 0);have R0:=Bv w (O2 aa an ac ya l.length yc) (O7 0 0);generalize f:(if C<0 then ((-1:Int),((0:Int),(0:Int))) else if (own.length:Int)<=C then (-1,(0,0)) else (F,own.getD C.toNat (0,0)))=A
 go_in;go_wp2_with fail;refine Qb (Ba HO _ Y) Y ?_;intro w1 O G;have I:=stay O Z;have z:=stay O R0;obtain⟨J,K⟩:=cl2 I;simp at J K;clear O Z R0;go_wp2_with fail;refine(Ba HW _ G).mono ?_;rintro e w2 ⟨xa,xc,rfl,ht,b⟩;by_cases Q:C<0;·rw[Sp Q]at f;subst f;have D:=QB G b;have j:=stay b z;obtain⟨m,t⟩:=cl2 j;obtain⟨q0,q1⟩:=fr2 j;simp at m t;clear b I z J K;go_wp2;refine tb (.tuple #[.i (-1),.agg #[.i 0,.i 0]]) (by simp[results,B0f,go_sem,m,t]) ?_;exact⟨rfl,by repeat (first|refine Bvq ?_ Fr _|exact D)⟩
 rw[Pf Q]at f;obtain⟨q,rfl⟩:=Bvk (show 0<=C by omega);by_cases h2:(own.length:Int)<=(q:Int);·rw[Sp h2]at f;subst f;have D:=QB G b;have j:=stay b z;obtain⟨m,t⟩:=cl2 j;obtain⟨q0,q1⟩:=fr2 j;simp at m t;clear b I z J K;go_wp2;refine tb (.tuple #[.i (-1),.agg #[.i 0,.i 0]]) (by simp[results,B0f,go_sem,m,t]) ?_;exact⟨rfl,by repeat (first|refine Bvq ?_ Fr _|exact D)⟩
 rw[Pf h2]at f;have hq:q<own.length:=Bd;have e:own.getD ((q:Nat):Int).toNat (0,0)=own[q]:=by simp[Th,hq]
 rw[e]at f;subst f;have kb:(q:Int)<(own.length:Int):=Bd;clear e Q;obtain⟨g,o,rfl,hg,a0⟩:=ht.at Bd;obtain⟨y0,y1⟩:=a0 q hq;have D:=QB G b;have j:=stay b z;obtain⟨m,t⟩:=cl2 j;obtain⟨q0,q1⟩:=fr2 j;simp at m t;clear b I z J K a0;go_wp2
 go_region
 all_goals
  go_wp2;refine tb (.tuple #[.i F,.agg #[.i own[q].1,.i own[q].2]]) (by simp[results,B0f,go_sem,m,t]) ?_;exact⟨rfl,by repeat (first|refine By2 ?_|refine Bvq ?_ Fr _|exact D)⟩
def Oh(T:TI)(b:List (List (Int×Int)))(c:Int)(e:∀p∈b,p.length<=1000):∀d:Nat,(Fb T b c d).length<=1000*d
 | 0=>by simp[Fb]
 | d+1=>by
  rw[Fb,Up];have f:=Oh T b c e d;have:(b.getD d []).length<=1000:=by
   rw[Th];rcases h:b[d]? with _|x
   ·simp
   simp;exact e x (Bwv h)
  split
  ·omega
  rw[Bwn];omega
def Wc(T:TI)(t C:Nat)(l:List (Value×List (Int×Int)))(bb:Nat)(ya:TA)(yc:Nat)(c:Int)(w:TW)(hl:l.length<=14)(a3:T.length<=1000)(Y:∀p∈l,p.2.length<=1000)(hT:Dl w t T)(hF:Np w bb (.s ya l.length yc) l):Calls prog 279 #[.agg #[.s (.p t) T.length C,.s ya l.length yc],.i c] w fun e Z => ∃F G,e=.r (.s F (Dq T (l.map Prod.snd) c).length G)/\Dp Z w.heap.size (.s F (Dq T (l.map Prod.snd) c).length G) (Dq T (l.map Prod.snd) c)/\Bl w Z:=by
 have a4:∀d,(Fb T (l.map Prod.snd) c d).length<=1000*d:=Oh T (l.map Prod.snd) c (fun p hp=>by obtain⟨q,hq,rfl⟩:=List.mem_map.1 hp;exact Y q hq);have HN:∀k,Fb T (l.map Prod.snd) c (k+1)=Fb T (l.map Prod.snd) c k++(if Tr.within T c (k:Int)=true then (l.map Prod.snd).getD k [] else []):=fun k=>rfl
 have H0:Fb T (l.map Prod.snd) c 0=[]:=rfl;have HE:Hid (Dq T (l.map Prod.snd) c=Fb T (l.map Prod.snd) c l.length):=by unfold Hid Dq;rw[Bvr]
 rw[Ba HE];generalize Fb T (l.map Prod.snd) c=m at *;clear HE;have a0:Bl w (w.alloc (O2 (.p t) T.length C ya l.length yc)):=QN _;have T0:=Bf w (O2 (.p t) T.length C ya l.length yc);go_in;go_wp2
 go_loopw [5,11] (fun u v wr=>∃k:Nat,k<=l.length/\v=.i (k:Int)/\wr.ownsRow w.heap.size 31 2 u (m k).length (Bu (m k))/\Bl w wr /\
   wr.heap[w.heap.size]?=some (O2 (.p t) T.length C ya l.length yc))
  (fun _ v _=>l.length-(intOf v).toNat)
 case atStart=>exact⟨0,Bd,rfl,by rw[H0];exact Bvl _ _ _ _,a0,T0⟩
 case round=>
  clear a0 T0;obtain⟨k,hk,rfl,D,z,K⟩:=hrel;have a1:=z.size;obtain⟨ua,uc,rfl⟩:=Bg D;by_cases L:k<l.length
  ·have a5:=hF.below z;obtain⟨g,rfl,b0,F,G,y0,ht⟩:=a5.at L;have b1:=Y l[k] (Bvh L);have h:=HN k;have e:(l.map Prod.snd).getD k []=l[k].2:=by simp[Th,L]
   rw[e]at h;generalize l[k].2=own at *;have b2:=a4 k;have kb:(k:Int)<(l.length:Int):=Bd;obtain⟨t0,t1⟩:=cl2 K;simp at t0 t1;have A:=N1 (ya:=some ⟨g,0,none⟩) (yn:=l.length) (yc:=yc) T t C c (k:Int) wr a3 (hT.below z);cases I:Tr.within T c (k:Int) with
   | true =>
    rw[I]at A h;rw[Sp rfl]at h;have N:=Bc A;have O:=Bc h;clear A h I e;go_wp2_with fail;refine Qm (Ba N) ?_;intro w1 f;have J:=z.trans (f.mono a1);have b3:=J.size;have Q:=stay f K;have B:=Cx D (Kp.of_below (e:=none) f) Ck;have a6:=ht.below f;clear f D ht;go_wp2_with (at_builtin;refine Pv rfl _ _ rfl w.heap.size _ (m k) own F own.length G rfl B rfl a6 Bd Bd ?_)
    intro v' w2 a2 V;have a7:=J.grown V Bd (fun j hj=>(B.lt j hj).1);have a8:=Kp.of_grown (b:=0) V B _ _ _ (Bv5 _) Q Ck;have a9:w2.ownsRow w.heap.size 31 2 v' (m (k+1)).length (Bu (m (k+1))):=by rw[Ba O,Up];exact a2
    clear V B a2;go_wp2;go_roundw
    case rel=>exact⟨k+1,Bd,Lt,a9,a7,a8⟩
    case measure=>simp[intOf];omega
   | false =>
    rw[I]at A h;rw[Pf Fr,Bxl]at h;have N:=Bc A;have O:=Bc h;clear A h I e;go_wp2_with fail;refine Qm (Ba N) ?_;intro w1 f;have J:=z.trans (f.mono a1);have Q:=stay f K;have B:w1.ownsRow w.heap.size 31 2 (.s ua (m k).length uc) (m (k+1)).length (Bu (m (k+1))):=by rw[Ba O];exact Cx D (Kp.of_below (e:=none) f) Ck
    clear f;go_wp2;go_roundw
    case rel=>exact⟨k+1,Bd,Lt,B,J,Q⟩
    case measure=>simp[intOf];omega
  obtain rfl:k=l.length:=Bd;have kb:¬(l.length:Int)<(l.length:Int):=Bd;go_wp2;go_ret;exact⟨ua,uc,rfl,D,z⟩
structure BnC where
 tg:Nat
 tc:Nat
 ya:Option Addr
 yn:Nat
 yc:Nat
 hi:Int
 T:List Int
abbrev FrV.lv(v:FrV):Value:=.slice v.la v.ln v.lc
abbrev FrV.sv(v:FrV):Value:=.slice v.sa v.sn v.sc
def FrV.free(v:FrV)(k j:Nat):Prop:=j≠k/\v.lv.ownBlock≠some j/\v.sv.ownBlock≠some j
structure Eo(w:World)(B k:Nat)(c:BnC)(v:FrV)(b:Ea):Prop where
 blk:w.heap[k]?=some (O23 (some ⟨c.tg,0,none⟩) c.T.length c.tc c.ya c.yn c.yc v.la v.ln v.lc v.sa v.sn v.sc c.hi b.br)
 lo:Dp w B v.lv b.lo
 st:Dp w B v.sv b.st
 nk:v.lv.ownBlock≠some k/\v.sv.ownBlock≠some k
 ns:∀j,v.lv.ownBlock=some j->v.sv.ownBlock≠some j
 hB:B<=k
 tr:Dl w c.tg c.T
 tB:c.tg<B
 tl:c.T.length<=1000
 ll:b.lo.length<=1000
 sl:b.st.length<=5000
structure Bn(k:Nat)(w:World)(v:FrV)(w':World)(v':FrV):Prop where
 bel:Below 0 w w'
 blk:∀j,j<w.heap.size->v.free k j->w'.heap[j]?=w.heap[j]?/\v'.free k j
def Bn.refl(k:Nat)(w:TW)(v:FrV):Bn k w v w v:=⟨Vm _ _,fun _ _ h=>⟨rfl,h⟩⟩
def Bn.trans{a b c:TW}{u v x:FrV}(h:Bn k a u b v)(g:Bn k b v c x):Bn k a u c x :=
 ⟨h.bel.trans g.bel,fun j i l=>by
  obtain⟨e,f⟩:=h.blk j i l;obtain⟨m,p⟩:=g.blk j (Bvm i h.bel.size) f;exact⟨m.trans e,p⟩⟩
def Bn.of_below{a b:TW}(v:FrV)(h:Bl a b):Bn k a v b v:=⟨⟨h.os,h.tape,h.output,h.size,fun _ c=>absurd c (Nat.not_lt_zero _)⟩,fun j c e=>⟨h.block j c,e⟩⟩
def Bn.stay{s:Nat}{b:TW}{v e:FrV}{o:Obj}(h:Bn k w v b e)(f:v.free k s)(c:w.heap[s]?=some o):b.heap[s]?=some o:=(h.blk s (Pk c) f).1.trans c
def Bn.free{s:Nat}{b:TW}{v c:FrV}(h:Bn k w v b c)(e:v.free k s)(f:s<w.heap.size):c.free k s:=(h.blk s f e).2
def Ko{s n:Nat}{g:TypeId}{i:TX}{e:TV}{b:TW}(h:w.ownsRow u g s i n e)(m:∀j,i.ownBlock=some j->b.heap[j]?=w.heap[j]?):b.ownsRow u g s i n e:=by
 obtain⟨l,p|⟨f,q,z,a,c,d,r⟩⟩:=h
 ·exact⟨l,.inl p⟩
 exact⟨l,.inr ⟨f,q,z,a,c,by rw[m f (by rw[a];rfl)];exact d,r⟩⟩
def Eo.k_lt{c:BnC}{v:FrV}{b:Ea}(h:Eo w u k c v b):k<w.heap.size:=Pk h.blk
def Eo.low{j:Nat}{c:BnC}{v:FrV}{b:Ea}(h:Eo w u k c v b)(f:j<u):v.free k j :=
 ⟨by have:=h.hB;omega,fun e=>by have:=(h.lo.lt j e).1;omega,fun e=>by have:=(h.st.lt j e).1;omega⟩
def Eo.new{j:Nat}{c:BnC}{v:FrV}{b:Ea}(h:Eo w u k c v b)(f:w.heap.size<=j):v.free k j :=
 ⟨by have:=h.k_lt;omega,fun e=>by have:=(h.lo.lt j e).2;omega,fun e=>by have:=(h.st.lt j e).2;omega⟩
def Eo.B_le{c:BnC}{v:FrV}{b:Ea}(h:Eo w u k c v b):u<=w.heap.size:=Bwr (Bzq h.hB h.k_lt)
def Bn.low{b:TW}{c:BnC}{v i:FrV}{e:Ea}(h:Bn k w v b i)(f:Eo w u k c v e):Below u w b :=
 ⟨h.bel.os,h.bel.tape,h.bel.output,h.bel.size,fun j g=>(h.blk j (Bvm g f.B_le) (f.low g)).1⟩
def Eo.below{b:TW}{c:BnC}{v:FrV}{e:Ea}(h:Eo w u k c v e)(f:Bl w b):Eo b u k c v e :=
 ⟨stay f h.blk,Ko h.lo (fun j g=>f.block j (h.lo.lt j g).2),Ko h.st (fun j g=>f.block j (h.st.lt j g).2),h.nk,h.ns,h.hB,h.tr.below f,h.tB,h.tl,h.ll,h.sl⟩
def Eo.alloc{c:BnC}{v:FrV}{b:Ea}(h:Eo w u k c v b)(o:Obj):Eo (w.alloc o) u k c v b:=h.below (QN o)
def Eo.drew{c:BnC}{v:FrV}{b:Ea}(h:Eo w u k c v b):Eo w.drew u k c v b:=h.below (Vm _ _).drew
def Bn.alloc{b:TW}{v c:FrV}(h:Bn k w v b c)(o:Obj):Bn k w v (b.alloc o) c:=h.trans (Bn.of_below c (QN o))
def Bn.drew{b:TW}{v c:FrV}(h:Bn k w v b c):Bn k w v b.drew c:=h.trans (Bn.of_below c (Vm _ _).drew)
def Ow{b:TW}{s:Nat}(h:Dl w u z)(e:u<s)(c:Below s w b):Dl b u z :=
 ⟨Bvm h.1 c.size,fun i f=>by rw[c.cell (p:=.a u i) e];exact h.2 i f⟩
def Eo.setS{c:BnC}{v:FrV}{b:Ea}(h:Eo w u k c v b){sa:TA}{sn sc:Nat}{q:TP}(i:Dp w u (.s sa sn sc) q)(l:q.length<=5000) (g:(Value.slice sa sn sc).ownBlock≠some k)(m:∀j,v.lv.ownBlock=some j->(Value.slice sa sn sc).ownBlock≠some j):Eo (w.setCell (.a k 3) (.s sa sn sc)) u k c ⟨v.la,v.ln,v.lc,sa,sn,sc⟩ ⟨b.lo,q,b.br⟩ :=
 ⟨by rw[Bq h.blk];rfl,Ko h.lo (fun j f=>Dm (fun e=>h.nk.1 (e▸f))),Ko i (fun j f=>Dm (fun e=>g (e▸f))),⟨h.nk.1,g⟩,m,h.hB,
  Ow h.tr h.tB ((Vm u w).setCell (by simpa using h.hB) _),h.tB,h.tl,h.ll,l⟩
def Eo.brk{c:BnC}{v:FrV}{b:Ea}(h:Eo w u k c v b):Eo (w.setCell (.a k 5) (.bool true)) u k c v ⟨b.lo,b.st,true⟩ :=
 ⟨by rw[Bq h.blk];rfl,Ko h.lo (fun j f=>Dm (fun e=>h.nk.1 (e▸f))),Ko h.st (fun j f=>Dm (fun e=>h.nk.2 (e▸f))),h.nk,h.ns,h.hB,
  Ow h.tr h.tB ((Vm u w).setCell (by simpa using h.hB) _),h.tB,h.tl,h.ll,h.sl⟩
def Bn.setK{i:Nat}{b:TW}{v e v2:FrV}(h:Bn k w v b e)(u:TX)(f:v2.lv.ownBlock=e.lv.ownBlock)(g:v2.sv.ownBlock=e.sv.ownBlock):Bn k w v (b.setCell (.a k i) u) v2 :=
 h.trans ⟨(Vm 0 b).setCell Fr u,fun j _ c=>⟨Dm c.1,c.1,by rw[f];exact c.2.1,by rw[g];exact c.2.2⟩⟩
def Bn.brk{b:TW}{v c:FrV}(h:Bn k w v b c):Bn k w v (b.setCell (.a k 5) (.bool true)) c:=h.setK _ rfl rfl
def Bpj{n j:Nat}{a:TA}{q:TP}(h:Dp w u (.s a n j) q){K:Nat}(z:K<=q.length):Dp w u (.s a K j) (q.take K):=by
 have c:(q.take K).length=K:=Fm;obtain⟨A,⟨b,C⟩|⟨g,D,e,b,f,i,F,p,t,v⟩⟩:=h
 ·simp only[Value.slice.injEq]at b;obtain⟨rfl,rfl,rfl⟩:=b;have:K=0:=Bd;subst this;exact⟨by simp[Bu],.inl ⟨rfl,Fr⟩⟩
 simp only[Value.slice.injEq]at b;obtain⟨rfl,rfl,rfl⟩:=b;refine⟨by rw[Kc],.inr ⟨g,j,e,by rw[c],f,i,Bd,p,t,?_⟩⟩;rw[Bak,c,<- v,Bxu]
 congr 1;omega
def Eo.setF{j K:Nat}{c:BnC}{v:FrV}{b:Ea}(h:Eo w u k c v b)(g:v.free k j)(m:u<=j)(f:TX):Eo (w.setCell (.a j K) f) u k c v b :=
 ⟨(Dm (Bxc g.1)).trans h.blk,Ko h.lo (fun x l=>Dm (fun e=>g.2.1 (e▸l))),Ko h.st (fun x l=>Dm (fun e=>g.2.2 (e▸l))),h.nk,h.ns,h.hB,
  Ow h.tr h.tB ((Vm u w).setCell (by simpa using m) _),h.tB,h.tl,h.ll,h.sl⟩
def Bn.setF{s j:Nat}{b:TW}{v c:FrV}(h:Bn k w v b c)(m:w.heap.size<=s)(u:TX):Bn k w v (b.setCell (.a s j) u) c :=
 ⟨h.bel.setCell Fr u,fun x g l=>by
  obtain⟨e,f⟩:=h.blk x g l;exact⟨(Dm Bd).trans e,f⟩⟩
def Kn{P:Program}{B:Array Oper}{o:Oper}{a:Act}{K:Act->TW->Prop}{Q:Exit->Act->TW->Prop}{E:Prop} (C:o.guard=none)(s x:Operand)(t:TypeId)(D:o.op=Op.call { callee:=Callee.builtin Builtin.append,args:=#[s,x],argTypes:=#[t,t] }) (l:Nat)(e:TypeId)(i:TypeInfo)(z:TX)(b p:Nat)(F:P.underlying t=some (.s e))(G:P.info? e=some i)(I:i.zero=some z)(J:i.size=b)(L:i.bytes=p)(N:z.cells.size=b)(O:0<b) (v:TX)(n:Nat)(q:TV)(V:a.eval s=v)(Y:w.ownsRow l e b v n q) (A:Addr)(m c:Nat)(g:TV)(Z:a.eval x=.s (some A) m c)(hn:g.length=m*b)(hc:∀j u,g[j]?=some u->w.cell? (A.add j)=some u)(a0:∀u∈g,u.oneCell'=true) (b1:n+m<=maxLen)(b2:(n+m)*p<=140737488355328)(b3:l<=w.heap.size) (hK:∀f h,h.ownsRow l e b f (n+m) (q++g)->w.grownBy h v.ownBlock->(f.ownBlock=v.ownBlock\/f.ownBlock=some w.heap.size)->K (a.put o.dst f) h):if Region.wanted o (yielded B a.tmps)=true then Oper.wp P o a w K Q else E:=by
 have hw:Region.wanted o (yielded B a.tmps)=true:=by simp[Region.wanted,C]
 rw[Sp hw];obtain⟨f,h,a1,r1,r2,_,r3⟩:=run_append_own_at (P:=P) w l t o.type e i z b p F G I J L N O v n q Y A m c g hn hc a0 b1 b2 b3;unfold Oper.wp;simp[execOp,D,resolve,invoke,builtin,V,Z,a1,Result.andThen];exact hK f h r1 r2 r3
def Eo.grown{b:TW}{c:BnC}{v:FrV}{f:Ea}(h:Eo w u k c v f){l:TA}{j K:Nat}{st:TP}(p:w.grownBy b v.sv.ownBlock)(A:Dp b u (.s l j K) st)(C:st.length<=5000) (t:(Value.slice l j K).ownBlock=v.sv.ownBlock\/(Value.slice l j K).ownBlock=some w.heap.size):Eo (b.setCell (.a k 3) (.s l j K)) u k c ⟨v.la,v.ln,v.lc,l,j,K⟩ ⟨f.lo,st,f.br⟩/\Bn k w v (b.setCell (.a k 3) (.s l j K)) ⟨v.la,v.ln,v.lc,l,j,K⟩:=by
 have D:b.heap[k]?=_:=(p.block k h.k_lt (fun e=>h.nk.2 e.symm)).trans h.blk;have F:∀i,v.lv.ownBlock=some i->b.heap[i]?=w.heap[i]?:=fun i m=>p.block i (h.lo.lt i m).2 (fun e=>h.ns i m e.symm);have z:(Value.slice l j K).ownBlock≠some k:=by
  rcases t with e|e
  ·rw[e];exact h.nk.2
  rw[e];intro g;have:=h.k_lt;simp at g;omega
 have G:∀i,v.lv.ownBlock=some i->(Value.slice l j K).ownBlock≠some i:=by
  intro i m;rcases t with e|e
  ·rw[e];exact h.ns i m
  rw[e];intro g;have:=(h.lo.lt i m).2;simp at g;omega
 have I:Below u w b:=⟨p.os,p.tape,p.output,p.size,fun i m=>p.block i (Bvm m h.B_le) (fun e=>by have:=(h.st.lt i e.symm).1;omega)⟩;have J:Eo b u k c v ⟨f.lo,f.st,f.br⟩->True:=fun _=>trivial;clear J;refine⟨⟨by rw[Bq D];rfl,Ko (Ko h.lo F) (fun i m=>Dm (fun e=>h.nk.1 (e▸m))),Ko A (fun i m=>Dm (fun e=>z (e▸m))),⟨h.nk.1,z⟩,G,h.hB,
  Ow (Ow h.tr h.tB I) h.tB ((Vm u b).setCell (by simpa using h.hB) _),h.tB,h.tl,h.ll,C⟩,?_⟩
 refine⟨(⟨p.os,p.tape,p.output,p.size,fun i m=>absurd m (Nat.not_lt_zero _)⟩:Below 0 w b).setCell Fr _,fun i m q=>⟨?_,q.1,q.2.1,?_⟩⟩
 ·rw[Dm q.1];exact p.block i m (fun e=>q.2.2 e.symm)
 rcases t with e|e
 ·exact fun g=>q.2.2 (e.symm.trans g)
 intro g;rw[e]at g;simp at g;omega
def Yr(w:TW):Calls prog 166 #[] w fun e b=>e=.r (.agg #[.i 0,.i 0])/\Bl w b:=by
 go_in;go_wp2;refine tb (.agg #[.i 0,.i 0]) (by simp[results,results166,go_sem]) ?_;exact⟨rfl,by repeat (first|refine Bvq ?_ Fr _|refine Bwu ?_ Fr _|exact Vm _ _)⟩
def N3(w:TW)(B k:Nat)(c:BnC)(v:FrV)(b:Ea)(h:Eo w B k c v b):Calls prog 265 #[.q k 0] w fun e Q=>e=.r (.agg #[.i (Bi b).1.1,.i (Bi b).1.2])/\∃V,Eo Q B k c V (Bi b).2/\Bn k w v Q V:=by
 have Y:=h.alloc (O7 0 0);have Z:=(Bn.refl k w v).alloc (O7 0 0);have b5:=h.k_lt;have a0:=h.B_le;have a7:=h.new (Wf _);have RA:=Bf w (O7 0 0);obtain⟨j,l,z,sa,sn,sc⟩:=v;obtain⟨D,f,I⟩:=b;obtain⟨xa,xc,a1⟩:=Bg h.st;simp only[Value.slice.injEq]at a1;obtain⟨rfl,a8,rfl⟩:=a1;subst a8;have A:=h.blk;have c3:=Bb A 3;have c5:=Bb A 5;have f5:=Bj A 5;have f3:=Bj A 3;simp at c3 c5;have C:=h.st;have a9:=h.sl;simp only at C a9;by_cases hz:f.length=0
 ·have e:Bi ⟨D,f,I⟩=((0,0),⟨D,f,true⟩):=by unfold Bi;rw[Sp hz]
  rw[e];have b6:(f.length:Int)=0:=Bd;have a2:=(h.brk).alloc (O7 0 0);have a3:=((Bn.refl k w ⟨j,l,z,sa,f.length,sc⟩).brk).alloc (O7 0 0);have J:=Bf (w.setCell (.a k 5) (.bool true)) (O7 0 0);have a4:(w.setCell (.a k 5) (.bool true)).heap.size=w.heap.size:=by simp[World.setCell]
  rw[a4]at J;clear e C A a4;go_in;go_wp2_with fail;refine Qm (Yr _) ?_;intro w1 F;have b0:=a2.below F;have a5:=a3.trans (Bn.of_below _ F);have K:=stay F J;obtain⟨r0,r1⟩:=cl2 K;obtain⟨q0,q1⟩:=fr2 K;have lr:=Pk K;have b7:=a5.bel.size;simp at r0 r1;clear F Y a2 Z a3 RA J;have a6:FrV.free ⟨j,l,z,sa,f.length,sc⟩ k w.heap.size:=a7;go_wp2;refine tb (.agg #[.i 0,.i 0]) (by simp[results,results265,go_sem,r0,r1]) ?_;exact⟨rfl,_,(b0.setF a6 a0 _).setF a6 a0 _,(a5.setF (Wf _) _).setF (Wf _) _⟩
 obtain⟨m,G⟩:∃m,f.length=m+1:=⟨f.length-1,Bd⟩;have e:Bi ⟨D,f,I⟩=(f.getD m (0,0),⟨D,f.take m,I⟩):=by unfold Bi;rw[Pf hz];simp only[G,Bzr]
 rw[e];obtain⟨g,hg,b8,_,L⟩:=Cf C Bd;obtain⟨t1,t2,t3⟩:=Gc f m Bd;have y0:=(L (m*2) Bd).trans t1;have y1:=(L (m*2+1) Bd).trans t2;have e2:f.getD m (0,0)=f[m]:=by simp[Th,G]
 rw[e2];generalize f[m]=t at *;obtain⟨b1,b2⟩:=t;simp only at y0 y1 ⊢;subst hg;have N:=h.nk.2;have O:=h.ns;simp only[G]at N O;have hS:=h.setS (sa:=some ⟨g,0,none⟩) (sn:=m) (sc:=sc) (Bpj C Bd) Fm N O;have GS:=(Bn.refl k w ⟨j,l,z,some ⟨g,0,none⟩,f.length,sc⟩).setK (i:=3) (v2:=⟨j,l,z,some ⟨g,0,none⟩,m,sc⟩) (.s (.p g) m sc) rfl rfl;obtain⟨-,b3,b4⟩:=(TyR.of_tys C).cap;simp only at b3 b4;have kb:(m:Int)<(f.length:Int):=Bd;have kw:IntKind.i64.wrap ((f.length:Int)-1)=(m:Int):=by rw[Eg _ Bd (by unfold maxLen at *;omega)];omega
 have kc:(m:Int)<=(sc:Int):=Bd;have km:m<=sc:=Bd;clear e e2 Y Z RA L t1 t2 t3 N O G;go_in;go_wp2;refine tb (.agg #[.i b1,.i b2]) (by simp[results,results265,go_sem]) ?_;exact⟨rfl,⟨j,l,z,some ⟨g,0,none⟩,m,sc⟩,(hS.alloc _).alloc _,(GS.alloc _).alloc _⟩
def Pc(w:TW)(B k:Nat)(c:BnC)(v:FrV)(b:Ea)(g l:Int)(h:Eo w B k c v b)(a8:b.st.length<5000):Calls prog 266 #[.q k 0,.agg #[.i g,.i l]] w fun e G=>e=.r (.tuple #[])/\∃I,Eo G B k c I (Es c.hi (g,l) b)/\Bn k w v G I:=by
 have t:=h.alloc (O7 g l);have GA:=(Bn.refl k w v).alloc (O7 g l);have b0:=h.k_lt;have b1:=h.B_le;obtain⟨la,ln,lc,L,sn,N⟩:=v;obtain⟨lo,st,br⟩:=b;obtain⟨xa,xc,a7⟩:=Bg h.st;simp only[Value.slice.injEq]at a7;obtain⟨rfl,a9,rfl⟩:=a7;subst a9;have V:=Bb t.blk 3;have Y:=Bb t.blk 4;have c5:=Bb t.blk 5;have f5:=Bj t.blk 5;have f3:=Bj t.blk 3;have PA:=Bf w (O7 g l);obtain⟨p0,p1⟩:=cl2 PA;simp at V Y c5 p0 p1;obtain⟨Z,hi,a0,a1,a2⟩:=Bv4 Tryz.infoType;simp only at a8;have a3:(w.alloc (O7 g l)).ownsRow B 31 2 (.s L st.length N) st.length (Bu st):=t.st;have a4:=h.nk.2;unfold Es;by_cases hz:c.hi<=(st.length:Int)
 ·rw[Sp hz];go_in;go_wp2
  go_region_held3 (fun G=>G.C k 3 (.s L st.length N)/\G.C k 4 (.i c.hi)) (exact⟨V,Y⟩) (fail)
  go_wp2;refine tb (.tuple #[]) (by simp[results,results266,go_sem]) ?_;exact⟨rfl,_,(h.brk.alloc _).drew,(((Bn.refl k w ⟨la,ln,lc,L,st.length,N⟩).brk).alloc _).drew⟩
 rw[Pf hz];have a5:∀j u,[Value.int .i64 g,.i l][j]?=some u->((w.alloc (O7 g l)).alloc (O7 g l)).drew.drew.cell? ((⟨w.heap.size+1,0,none⟩:Addr).add j)=some u:=by
  intro j u hu;exact Dv (w.alloc (O7 g l)) [.i g,.i l] 31 (w.heap.size+1) Fr j u hu
 have a6:∀D F J,J.ownsRow B 31 2 (.s D (st.length+1) F) (st.length+1) (Bu st++[.i g,.i l])->World.grownBy ((w.alloc (O7 g l)).alloc (O7 g l)).drew.drew J (Value.slice L st.length N).ownBlock ->
   ((Value.slice D (st.length+1) F).ownBlock=(Value.slice L st.length N).ownBlock\/(Value.slice D (st.length+1) F).ownBlock=some ((w.alloc (O7 g l)).alloc (O7 g l)).drew.drew.heap.size)->∃I,Eo (J.setCell (.a k 3) (.s D (st.length+1) F)) B k c I ⟨lo,st++[(g,l)],br⟩/\Bn k w ⟨la,ln,lc,L,st.length,N⟩ (J.setCell (.a k 3) (.s D (st.length+1) F)) I:=by
  intro D F J z A O;have hG:=((t.alloc (O7 g l)).drew.drew).grown (st:=st++[(g,l)]) A (by unfold Dp;rw[Ml,Up];exact z) Fm O;exact⟨_,hG.1,(((GA.alloc (O7 g l)).drew.drew).trans hG.2)⟩
 go_in;go_wp2
 go_region_held3 (fun G=>G.C k 3 (.s L st.length N)/\G.C k 4 (.i c.hi)) (exact⟨V,Y⟩) (fail)
 go_wp2
 -- MOVES
 refine Bvz (S:=fun _=>True) Le trivial (fun m=>?_);refine tq 0 (.q k 0) m ?_;refine tq 1 (.q k 0) m ?_;refine tq 2 (.q k 0) m ?_;refine tq 3 (.q k 3) m ?_;refine Bw7 (rs:=[4,5]) Le Fr ?_;refine Bv3 (o:=⟨_,_,_,_,_,_⟩) rfl (fun K f=>?_) (Bv3 (o:=⟨_,_,_,_,_,_⟩) rfl (fun K f=>?_) Bw2)
 ·go_simp;refine f.out _ _ trivial (fun m=>?_);clear f K
  try simp only[QX]
  refine tr 5 fun K f=>?_;go_simp;refine f.out _ _ trivial (fun m=>?_);clear f K
  try simp only[QX]
  refine tr 6 fun K f=>?_;go_simp;refine f.out _ _ trivial (fun m=>?_);clear f K
  try simp only[QX]
  refine tr 7 fun K f=>?_;refine Kn Hd _ _ _ Hd B 31 Z _ 2 16 Bwq hi a0 a1 a2 rfl Bd _ _ _ Hd ((a3.alloc (O7 g l)).drew.drew) ⟨w.heap.size+1,0,none⟩ 1 1 [.i g,.i l] Hd Hd a5 (by simp[Value.oneCell']) Mc Bd Fm ?_;intro I J z A O;obtain⟨D,F,rfl⟩:=Bg z;have p:=(A.block k Fm (fun e=>a4 e.symm)).trans (Bk t.blk (O7 g l));have Q:=Bb p 3;have f2:=Bj p 3;have l2:=Pk p;simp at Q;refine f.out _ _ trivial (fun m=>?_);clear f K
  try simp only[QX]
  refine tq 8 (.q k 0) m ?_;refine tq 9 (.q k 3) m ?_;refine tr 10 fun K f=>?_;go_simp;refine f.out _ _ trivial (fun m=>?_);clear f K
  try simp only[QX]
  refine Bv9 Le ?_ _;go_wp2;go_end0;exact⟨rfl,a6 _ _ _ z A O⟩
 ·go_simp;refine f.out _ _ trivial (fun m=>?_);clear f K
  try simp only[QX]
  refine Bw7 (rs:=[4,6]) Le Fr ?_;refine Bv3 (o:=⟨_,_,_,_,_,_⟩) rfl (fun K f=>?_) (Bv3 (o:=⟨_,_,_,_,_,_⟩) rfl (fun K f=>?_) Bw2)
  ·go_simp;refine f.out _ _ trivial (fun m=>?_);clear f K
   try simp only[QX]
   refine tr 6 fun K f=>?_;go_simp;refine f.out _ _ trivial (fun m=>?_);clear f K
   try simp only[QX]
   refine tr 7 fun K f=>?_;refine Kn Hd _ _ _ Hd B 31 Z _ 2 16 Bwq hi a0 a1 a2 rfl Bd _ _ _ Hd ((a3.alloc (O7 g l)).drew.drew) ⟨w.heap.size+1,0,none⟩ 1 1 [.i g,.i l] Hd Hd a5 (by simp[Value.oneCell']) Mc Bd Fm ?_;intro I J z A O;obtain⟨D,F,rfl⟩:=Bg z;have p:=(A.block k Fm (fun e=>a4 e.symm)).trans (Bk t.blk (O7 g l));have Q:=Bb p 3;have f2:=Bj p 3;have l2:=Pk p;simp at Q;refine f.out _ _ trivial (fun m=>?_);clear f K
   try simp only[QX]
   refine tq 8 (.q k 0) m ?_;refine tq 9 (.q k 3) m ?_;refine tr 10 fun K f=>?_;go_simp;refine f.out _ _ trivial (fun m=>?_);clear f K
   try simp only[QX]
   refine Bv9 Le ?_ _;go_wp2;go_end0;exact⟨rfl,a6 _ _ _ z A O⟩
  go_simp;refine f.out _ _ trivial (fun m=>?_);clear f K
  try simp only[QX]
  refine tr 4 fun K f=>?_;go_simp;refine f.out _ _ trivial (fun m=>?_);clear f K
  try simp only[QX]
  refine tr 7 fun K f=>?_;refine Kn Hd _ _ _ Hd B 31 Z _ 2 16 Bwq hi a0 a1 a2 rfl Bd _ _ _ Hd ((a3.alloc (O7 g l)).drew.drew) ⟨w.heap.size+1,0,none⟩ 1 1 [.i g,.i l] Hd Hd a5 (by simp[Value.oneCell']) Mc Bd Fm ?_;intro I J z A O;obtain⟨D,F,rfl⟩:=Bg z;have p:=(A.block k Fm (fun e=>a4 e.symm)).trans (Bk t.blk (O7 g l));have Q:=Bb p 3;have f2:=Bj p 3;have l2:=Pk p;simp at Q;refine f.out _ _ trivial (fun m=>?_);clear f K
  try simp only[QX]
  refine tq 8 (.q k 0) m ?_;refine tq 9 (.q k 3) m ?_;refine tr 10 fun K f=>?_;go_simp;refine f.out _ _ trivial (fun m=>?_);clear f K
  try simp only[QX]
  refine Bv9 Le ?_ _;go_wp2;go_end0;exact⟨rfl,a6 _ _ _ z A O⟩
 -- END
def TyF (w:TW)(k:Nat)(v:FrV)(a:TA)(n cp:Nat)(l:TP):Prop:=TyR w (.slice a n cp) l/\∀g o,a=some ⟨g,o,none⟩->v.free k g
def TyF.bn{b:TW}{n j:Nat}{v m:FrV}{a:TA}{q:TP}(h:TyF w k v a n j q)(z:Bn k w v b m):TyF b k m a n j q:=by
 obtain⟨i|⟨g,o,c,A,p,s,i,B,C⟩,D⟩:=h
 ·refine⟨.inl i,fun g o e=>?_⟩;have:=i.1;simp only[Value.slice.injEq]at this;rw[this.1]at e;cases e
 simp only[Value.slice.injEq]at p;obtain⟨rfl,rfl,rfl⟩:=p;have F:=D g o rfl;obtain⟨t,G⟩:=z.blk g (Pk s) F;refine⟨.inr ⟨g,o,j,A,rfl,t.trans s,i,B,fun f x I=>?_⟩,fun J K e=>?_⟩
 ·rw[Bvj (a:=⟨g,o+f,none⟩) t];exact C f x I
 simp only[Option.some.injEq,Addr.mk.injEq,Bwb]at e;rw[<- e.1];exact G
def Bby(T:TI)(l:TP):∀(k:Nat) (b:Ea),(Gf T l k b).st.length<=b.st.length
 | 0,b=>Wf _
 | k+1,b=>by
  unfold Gf;refine Bvv (Bby T l k _) ?_;rw[(Bhh _ _ _ _).2.1];unfold Bi
  split<;>simp
def T6(w:TW)(B k:Nat)(c:BnC)(v:FrV)(b:Ea)(a:TA)(n cp:Nat)(l:TP)(h:Eo w B k c v b)(hl:TyF w k v a n cp l)(c1:l.length<=20000):Calls prog 271 #[.q k 0,.s a n cp] w fun e F=>e=.r (.tuple #[])/\∃L,Eo F B k c L (Gu c.T l b)/\Bn k w v F L:=by
 unfold Gu;generalize hR:Gf c.T l l.length b=R;have J:=Bc hR;clear hR;obtain⟨hn,-,-⟩:=hl.1.cap;subst hn;go_in;go_wp2
 go_loopw [4] (fun s wr=>∃(m:Nat) (L:FrV) (b':Ea),m<=l.length/\s=.i ((m:Int)-1)/\Hid (Gf c.T l m b'=R)/\Eo wr B k c L b'/\Bn k w v wr L)
  (fun s _=>(intOf s+1).toNat)
 case atStart=>exact⟨l.length,v,b,Wf _,Lt,J,h,Bn.refl _ _ _⟩
 case round=>
  clear J h;obtain⟨m,v1,V,hm,rfl,J,h,hG⟩:=hrel;cases m with
  | zero =>
   have HE:Hid (V=R):=Ba J;clear J;go_wp2;go_end0;obtain rfl:=Ba HE;exact⟨rfl,v1,h,hG⟩
  | succ m =>
   have D:=Ba J;rw[Gf]at D;have a2:=N3 wr B k c v1 V h;have a3:=hl.bn hG;have c2:=h.k_lt;have c3:=h.sl;have b6:(0:Int)<=((m+1:Nat):Int)-1:=Bd;have a4:((m+1:Nat):Int)-1=(m:Int):=Bd;rw[a4];generalize b7:(Bi V).1=t at *;obtain⟨f,j⟩:=t;generalize b8:(Bi V).2=I at *;have b9:=Bc a2;have a5:=Bc D;clear a2 D J b7 b8 b6 a4;go_wp2_with fail;refine Qm (Ba b9) ?_;rintro z ⟨v2,h2,a0⟩;have a6:=(a3.bn a0);obtain⟨g,o,rfl,a7,a8⟩:=a6.1.at Bd;obtain⟨y0,y1⟩:=a8 m Bd;have hx:l.getD m (0,0)=l[m]:=by simp[Th,show m<l.length by omega]
   have D:=Ba a5;rw[hx]at D;generalize l[m]=x at *;obtain⟨N,O⟩:=x;simp only at y0 y1;have K:=h2.alloc (O7 f j);have a9:=(hG.trans a0).alloc (O7 f j);have Y:=Bf z (O7 f j);have p0:(z.alloc (O7 f j)).C z.heap.size 0 (.i f):=(Bb Y 0).trans rfl;have p1:(z.alloc (O7 f j)).C z.heap.size 1 (.i j):=(Bb Y 1).trans rfl;have Z:=Bb K.blk 0;have k1:=Bb K.blk 1;have lT:=Pk Y;have lK:=K.k_lt;simp at Z k1;have z0:=(Bwg z (O7 f j) ⟨g,o+m*2,none⟩ a7).trans y0;have z1:=(Bwg z (O7 f j) ⟨g,o+m*2+1,none⟩ a7).trans y1;have lg:g<(z.alloc (O7 f j)).heap.size:=Fm;have b0:=Km (ya:=c.ya) (yn:=c.yn) (yc:=c.yc) c.T c.tg c.tc f j N O (z.alloc (O7 f j)).drew K.tl K.drew.tr;have b3:Wo c.T (f,j) (N,O) I=if Tr.fitsB c.T f j N O=true then I else ⟨I.lo,I.st,true⟩:=rfl
   rw[b3]at D;generalize Tr.fitsB c.T f j N O=A at *;have b4:=Bc b0;have kb:(m:Int)<(l.length:Int):=Bd;have c4:(0:Int)<=(m:Int):=Bd;clear a8 hx a3 a5 b0 b3 y0 y1 a6 a0 h2;go_wp2
   go_region_held3 (fun F=>F.C k 0 (.s (.p c.tg) c.T.length c.tc)/\F.C k 1 (.s c.ya c.yn c.yc)/\F.C z.heap.size 0 (.i f)/\F.C z.heap.size 1 (.i j)/\F.C g (o+m*2) (.i N)/\F.C g (o+m*2+1) (.i O))
    (first|exact⟨Z,k1,p0,p1,z0,z1⟩|exact⟨QC G lK Z,QC G lK k1,QC G lT p0,QC G lT p1,QC G lg z0,QC G lg z1⟩)
    (first|(go_at_call 118;refine(Ba b4).mono ?_;rintro e w7 ⟨rfl,G⟩))
   have Q:=K.drew.below G;have b5:=a9.drew.trans (Bn.of_below _ G);have c5:=Bb Q.blk 5;have f5:=Bj Q.blk 5;have c6:=Q.k_lt;simp at c5;clear G Z k1 p0 p1 z0 z1 lK lT lg Y K a9 b4;cases A with
   | true =>
    have a1:Hid (Gf c.T l m I=R):=by unfold Hid;rw[<- D];rfl
    clear D;go_wp2;go_roundw
    case rel=>exact⟨m,v2,I,Bd,Lt,a1,Q,b5⟩
    case measure=>simp[intOf]
   | false =>
    have a1:Hid (Gf c.T l m ⟨I.lo,I.st,true⟩=R):=by unfold Hid;rw[<- D];rfl
    clear D;have h8:=Q.brk;have c0:=b5.brk;go_wp2;go_roundw
    case rel=>exact⟨m,v2,_,Bd,Lt,a1,h8,c0⟩
    case measure=>simp[intOf]
def Bgx(w:TW)(B k:Nat)(c:BnC)(v:FrV)(b:Ea)(a:TA)(n F:Nat)(l:TP)(h:Eo w B k c v b)(G:TyF w k v a n F l)(a4:b.st.length+l.length<=4000):Calls prog 273 #[.q k 0,.s a n F] w fun e I=>e=.r (.tuple #[])/\∃j,Eo I B k c j (Hf c.hi l b)/\Bn k w v I j:=by
 generalize J:Hf c.hi l b=R;have f:Hid (Hf c.hi (l.drop 0) b=R):=J;clear J;obtain⟨Y,-,-⟩:=G.1.cap;subst Y;go_in;go_wp2
 go_loopw [8] (fun s wr=>∃(m:Nat) (j:FrV) (A:Ea),m<=l.length/\s=.i (m:Int)/\A.st.length<=b.st.length+m/\Hid (Hf c.hi (l.drop m) A=R)/\Eo wr B k c j A/\Bn k w v wr j)
  (fun s _=>l.length-(intOf s).toNat)
 case atStart=>exact⟨0,v,b,Bd,rfl,Bd,f,h,Bn.refl _ _ _⟩
 case round=>
  clear f h;obtain⟨m,K,z,hm,rfl,a5,f,h,C⟩:=hrel;by_cases L:m<l.length
  ·have Z:=G.bn C;obtain⟨g,o,rfl,a6,N⟩:=Z.1.at Bd;obtain⟨y0,y1⟩:=N m L;have O:l.drop m=l[m]::l.drop (m+1):=Wr L;have D:=Ba f;rw[O,Hf]at D;generalize l[m]=x at *;obtain⟨p,t⟩:=x;simp only at y0 y1;have h2:=h.alloc (O7 p t);have a0:=C.alloc (O7 p t);have Q:=Pc _ B k c K z p t h2 Bd;have a7:(Es c.hi (p,t) z).st.length<=b.st.length+(m+1):=by unfold Es;split<;>simp<;>omega
   generalize Es c.hi (p,t) z=V at *;have a1:=Bc Q;have a2:Hid (Hf c.hi (l.drop (m+1)) V=R):=D;have kb:(m:Int)<(l.length:Int):=Bd;clear Q D f O N;go_wp2_with fail;refine Qm (Ba a1) ?_;rintro w1 ⟨v2,h3,a3⟩;go_wp2;go_roundw
   case rel=>exact⟨m+1,v2,V,Bd,Lt,Bd,a2,h3,a0.trans a3⟩
   case measure=>simp[intOf];omega
  have HE:Hid (z=R):=by unfold Hid;rw[<- Ba f,Bvi Bd,Hf]
  have kb:¬(m:Int)<(l.length:Int):=Bd;clear f;go_wp2;go_end0;obtain rfl:=Ba HE;exact⟨rfl,K,h,C⟩
def Bqn(w:TW)(B k:Nat)(c:BnC)(v:FrV)(b:Ea)(n:Nat)(h:Eo w B k c v b)(N:b.st.length<5000):Calls prog 263 #[.q k 0,.i (n:Int)] w fun e F=>e=.r (.tuple #[])/\∃G,Eo F B k c G (X8 c.hi (n:Int) b)/\Bn k w v F G:=by
 have j:=fun O Q=>Pc w B k c v b O Q h N;have l:=h.blk;have a4:=h.k_lt;have z:=h.lo;obtain⟨la,ln,lc,sa,sn,sc⟩:=v;obtain⟨f,V,Y⟩:=b;obtain⟨xa,xc,I⟩:=Bg h.lo;simp only[Value.slice.injEq]at I;obtain⟨rfl,Z,rfl⟩:=I;subst Z;have c2:=Bb l 2;have c5:=Bb l 5;have f5:=Bj l 5;simp at c2 c5;unfold X8;simp only;rw[Pf Bd,Bvn];have a5:¬(n:Int)<0:=Bd;have a0:=h.ll;simp only at a0 z;by_cases s:(f.length:Int)<=(n:Int);·rw[Sp s];clear j l z;go_in;go_wp2;refine tb (.tuple #[]) (by simp[results,results263,go_sem]) ?_;exact⟨rfl,_,h.brk,(Bn.refl _ _ _).brk⟩
 rw[Pf s];have J:n<f.length:=Bd;have a6:(n:Int)<(f.length:Int):=Bd;obtain⟨g,hg,a7,_,t⟩:=Cf z Bd;obtain⟨A,C,K⟩:=Gc f n J;have y0:=(t (n*2) Bd).trans A;have y1:=(t (n*2+1) Bd).trans C;have D:f.getD n (0,0)=f[n]:=by simp[Th,J]
 rw[D];generalize f[n]=x at *;obtain⟨p,L⟩:=x;simp only at y0 y1 ⊢;subst hg;by_cases m:p=0
 ·rw[Sp m];have a1:(p==0)=true:=by simp[m]
  clear m j l t A C K D s;go_in;go_wp2;refine tb (.tuple #[]) (by simp[results,results263,go_sem]) ?_;exact⟨rfl,_,h.brk,(Bn.refl _ _ _).brk⟩
 rw[Pf m];have a1:(p==0)=false:=by simp[m]
 have j:=j p L;generalize Es c.hi (p,L) ⟨f,V,Y⟩=b2 at *;have a2:=Bc j;clear m j l t A C K D s;go_in;go_wp2_with fail;refine Qm (Ba a2) ?_;rintro w1 ⟨v2,h3,a3⟩;go_wp2;go_end0;exact⟨rfl,v2,h3,a3⟩
def Eo.setLo{c:BnC}{v:FrV}{b:Ea}(h:Eo w u k c v b){g ln lc q:Nat}(z:v.lv=.s (.p g) ln lc)(I:q<b.lo.length)(f l:Int):Eo ((w.setCell (.a g (q*2)) (.i f)).setCell (.a g (q*2+1)) (.i l)) u k c v ⟨b.lo.set q (f,l),b.st,b.br⟩/\Bn k w v ((w.setCell (.a g (q*2)) (.i f)).setCell (.a g (q*2+1)) (.i l)) v:=by
 have t:v.lv.ownBlock=some g:=by rw[z];rfl
 have J:k≠g:=fun e=>h.nk.1 (e▸t);have K:v.sv.ownBlock≠some g:=h.ns g t;have C:u<=g:=(h.lo.lt g t).1;have A:∀j,j≠g->((w.setCell (.a g (q*2)) (.i f)).setCell (.a g (q*2+1)) (.i l)).heap[j]?=w.heap[j]?:=fun j m=>(Dm m).trans (Dm m);have D:=h.lo;rw[z]at D;obtain⟨O,F,-,-,-,-,-,-,L⟩:=Xo D I f l;simp only[Option.some.injEq,Addr.mk.injEq,Bwb]at F;subst F;have N:Below u w ((w.setCell (.a g (q*2)) (.i f)).setCell (.a g (q*2+1)) (.i l)):=((Vm u w).setCell (by simpa using C) _).setCell (by simpa using C) _;refine⟨⟨(A k J).trans h.blk,by rw[z];exact L,Ko h.st (fun j m=>A j (fun e=>K (e▸m))),h.nk,h.ns,h.hB,Ow h.tr h.tB N,h.tB,h.tl,by simpa using h.ll,h.sl⟩,?_⟩;exact⟨((Vm 0 w).setCell Fr _).setCell Fr _,fun j m G=>⟨A j (fun e=>G.2.1 (e▸t)),G⟩⟩
def Eo.setSt{c:BnC}{v:FrV}{b:Ea}(h:Eo w u k c v b){g K I q:Nat}(z:v.sv=.s (.p g) K I)(J:q<b.st.length)(f l:Int):Eo ((w.setCell (.a g (q*2)) (.i f)).setCell (.a g (q*2+1)) (.i l)) u k c v ⟨b.lo,b.st.set q (f,l),b.br⟩/\Bn k w v ((w.setCell (.a g (q*2)) (.i f)).setCell (.a g (q*2+1)) (.i l)) v:=by
 have t:v.sv.ownBlock=some g:=by rw[z];rfl
 have L:k≠g:=fun e=>h.nk.2 (e▸t);have N:v.lv.ownBlock≠some g:=fun e=>h.ns g e t;have C:u<=g:=(h.st.lt g t).1;have A:∀j,j≠g->((w.setCell (.a g (q*2)) (.i f)).setCell (.a g (q*2+1)) (.i l)).heap[j]?=w.heap[j]?:=fun j m=>(Dm m).trans (Dm m);have D:=h.st;rw[z]at D;obtain⟨V,F,-,-,-,-,-,-,O⟩:=Xo D J f l;simp only[Option.some.injEq,Addr.mk.injEq,Bwb]at F;subst F;have Q:Below u w ((w.setCell (.a g (q*2)) (.i f)).setCell (.a g (q*2+1)) (.i l)):=((Vm u w).setCell (by simpa using C) _).setCell (by simpa using C) _;refine⟨⟨(A k L).trans h.blk,Ko h.lo (fun j m=>A j (fun e=>N (e▸m))),by rw[z];exact O,h.nk,h.ns,h.hB,Ow h.tr h.tB Q,h.tB,h.tl,h.ll,by simpa using h.sl⟩,?_⟩;exact⟨((Vm 0 w).setCell Fr _).setCell Fr _,fun j m G=>⟨A j (fun e=>G.2.2 (e▸t)),G⟩⟩
def Dp.alloc'{i:TX}{q:TP}(h:Dp w u i q)(o:Obj):Dp (w.alloc o) u i q:=Ko h (fun j c=>Bvu _ _ _ (h.lt j c).2)
def Bmk(w:TW)(B k:Nat)(c:BnC)(v:FrV)(b:Ea)(n:Nat)(h:Eo w B k c v b)(hn:n<=100000):Calls prog 264 #[.q k 0,.i (n:Int)] w fun e z=>e=.r (.tuple #[])/\∃O,Eo z B k c O (Wn (n:Int) b)/\Bn k w v z O:=by
 have G:=N3 w B k c v b h;have Q:=Bi5 b;unfold Wn;rw[Pf Bd,Bvn];rw[<- Q];generalize Bi b=a2 at *;obtain⟨⟨f,j⟩,t⟩:=a2;simp only at G ⊢;have V:=Bc G;have a5:¬(n:Int)<0:=Bd;clear G Q h;by_cases I:(t.lo.length:Int)<=(n:Int);·rw[Sp I];go_in;go_wp2_with fail;refine Qm (Ba V) ?_;rintro m ⟨J,l,A⟩;obtain⟨la,ln,lc,sa,sn,sc⟩:=J;obtain⟨xa,xc,D⟩:=Bg l.lo;simp only[Value.slice.injEq]at D;obtain⟨rfl,K,rfl⟩:=D;subst K;have Y:=l.alloc (O7 f j);have a3:=A.alloc (O7 f j);have L:=Bb l.blk 2;have N:=Bb l.blk 5;have f5:=Bj l.blk 5;have lk:=l.k_lt;have a4:=l.ll;simp at L N;go_wp2;refine tb (.tuple #[]) (by simp[results,results264,go_sem]) ?_;exact⟨rfl,_,l.brk.alloc _,A.brk.alloc _⟩
 rw[Pf I];have Z:n<t.lo.length:=Bd;have a6:(n:Int)<(t.lo.length:Int):=Bd;clear I;go_in;go_wp2_with fail;refine Qm (Ba V) ?_;rintro m ⟨J,l,A⟩;obtain⟨la,ln,lc,sa,sn,sc⟩:=J;obtain⟨xa,xc,D⟩:=Bg l.lo;simp only[Value.slice.injEq]at D;obtain⟨rfl,K,rfl⟩:=D;subst K;have Y:=l.alloc (O7 f j);have a3:=A.alloc (O7 f j);have L:=Bb l.blk 2;have N:=Bb l.blk 5;have f5:=Bj l.blk 5;have lk:=l.k_lt;have a4:=l.ll;simp at L N;obtain⟨g,hg,a7,_,y0,y1,z0,z1,-⟩:=Xo l.lo Z f j;subst hg;have hS:=l.setLo (g:=g) (ln:=t.lo.length) (lc:=lc) (q:=n) rfl Z f j;have a0:=hS.1.alloc (O7 f j);have a1:((m.setCell (.a g (n*2)) (.i f)).setCell (.a g (n*2+1)) (.i j)).heap.size=m.heap.size:=by simp[World.setCell]
 have F:=Bf ((m.setCell (.a g (n*2)) (.i f)).setCell (.a g (n*2+1)) (.i j)) (O7 f j);rw[a1]at F;have s0:(((m.setCell (.a g (n*2)) (.i f)).setCell (.a g (n*2+1)) (.i j)).alloc (O7 f j)).C m.heap.size 0 (.i f):=(Bb F 0).trans rfl;have s1:(((m.setCell (.a g (n*2)) (.i f)).setCell (.a g (n*2+1)) (.i j)).alloc (O7 f j)).C m.heap.size 1 (.i j):=(Bb F 1).trans rfl;have s2:(((m.setCell (.a g (n*2)) (.i f)).setCell (.a g (n*2+1)) (.i j)).alloc (O7 f j)).C k 2 (.s (.p g) t.lo.length lc):=(Bb a0.blk 2).trans rfl;clear a1 F;have a8:g≠k:=fun e=>l.nk.1 (by rw[e];rfl);have a9:g<m.heap.size:=(l.lo.lt g rfl).2;have TA:=Bf m (O7 f j);have p0:(m.alloc (O7 f j)).C m.heap.size 0 (.i f):=(Bb TA 0).trans rfl;have p1:(m.alloc (O7 f j)).C m.heap.size 1 (.i j):=(Bb TA 1).trans rfl;have d2:(m.alloc (O7 f j)).C k 2 (.s (.p g) t.lo.length lc):=(Bb Y.blk 2).trans rfl;go_wp2
 go_region_held3 (fun z=>z.C k 2 (.s (.p g) t.lo.length lc)/\z.C m.heap.size 0 (.i f)/\z.C m.heap.size 1 (.i j))
  (first|exact⟨d2,p0,p1⟩|exact⟨s2,s0,s1⟩)
  (fail)
 go_wp2;go_end0;exact⟨rfl,_,a0.drew,(((A.trans hS.2).alloc _).drew)⟩
def Ic (a b:Int × Int)(l:TP)(m:Nat):List (Int × Int):=Er a b (l.take m)++l.drop m
def Bd7(a b:Int×Int)(l:TP):Ic a b l 0=l:=by simp[Ic,Er]
def Bgi(a b:Int×Int)(l:TP):Ic a b l l.length=Er a b l:=by simp[Ic]
def Bbf(a b:Int×Int)(l:TP)(m:Nat):(Ic a b l m).length=l.length:=by
 simp only[Ic,Up,Kb,Bxf,List.length_drop];omega
def Bbg(a b:Int×Int)(l:TP)(m:Nat)(c:m<l.length)(h:m<(Ic a b l m).length):(Ic a b l m)[m]=l[m]:=by
 have e:(Er a b (l.take m)).length=m:=by rw[Kb];simp;omega
 simp only[Ic];rw[List.getElem_append_right Bd];simp[e]
def Z4(a b:Int×Int)(l:TP)(m:Nat)(c:m<l.length):Ic a b l (m+1)=(Ic a b l m).set m (if l[m]=a then b else l[m]):=by
 have e:(Er a b (l.take m)).length=m:=by rw[Kb];simp;omega
 simp only[Ic];rw[Bhw a b l m c,Bw1 _ _ Bd,e,Byx,Bwe,Wr c];rfl
def Bd8(a b:Int×Int)(l:TP)(m:Nat)(c:m<l.length)(h:l[m]≠a):Ic a b l (m+1)=Ic a b l m:=by
 rw[Z4 a b l m c,Pf h];have e:m<(Ic a b l m).length:=by rw[Bbf];exact c
 conv=>lhs;arg 3;rw[<- Bbg a b l m c e]
 exact List.set_getElem_self e
def Bct(w:TW)(B k:Nat)(c:BnC)(v:FrV)(b:Ea)(F G f j:Int)(h:Eo w B k c v b):Calls prog 267 #[.q k 0,.agg #[.i F,.i G],.agg #[.i f,.i j]] w fun e N=>e=.r (.tuple #[])/\∃v',Eo N B k c v' (Mt (F,G) (f,j) b)/\Bn k w v N v':=by
 obtain⟨A,D,br⟩:=b;unfold Mt;simp only;obtain⟨la,ln,O,sa,sn,Q⟩:=v;obtain⟨xa,xc,b0⟩:=Bg h.lo;simp only[Value.slice.injEq]at b0;obtain⟨rfl,b2,rfl⟩:=b0;subst b2;obtain⟨xa,xc,b0⟩:=Bg h.st;simp only[Value.slice.injEq]at b0;obtain⟨rfl,b2,rfl⟩:=b0;subst b2;have h0:=(h.alloc (O7 F G)).alloc (O7 f j);have G0:=((Bn.refl k w ⟨la,A.length,O,sa,D.length,Q⟩).alloc (O7 F G)).alloc (O7 f j);have O0:=Cb w (O7 F G) (O7 f j);have N0:=Bv w (O7 F G) (O7 f j);have b5:=h.ll;have b6:=h.sl;have c5:=h.k_lt;have b7:∀g,la=some ⟨g,0,none⟩->g<w.heap.size:=fun g e=>(h.lo.lt g (by subst e;rfl)).2;have b8:∀g,sa=some ⟨g,0,none⟩->g<w.heap.size:=fun g e=>(h.st.lt g (by subst e;rfl)).2;have c2:=Bb h0.blk 2;simp at c2;simp only at b5 b6;go_in;go_wp2
 go_loopw [15] (fun s wr=>∃m:Nat,m<=A.length/\s=.i (m:Int)/\Eo wr B k c ⟨la,A.length,O,sa,D.length,Q⟩ ⟨Ic (F,G) (f,j) A m,D,br⟩/\Bn k w ⟨la,A.length,O,sa,D.length,Q⟩ wr ⟨la,A.length,O,sa,D.length,Q⟩/\wr.heap[w.heap.size]?=some (O7 F G)/\wr.heap[w.heap.size+1]?=some (O7 f j))
  (fun s _=>A.length-(intOf s).toNat)
 case atStart=>exact⟨0,Bd,rfl,by rw[Bd7];exact h0,G0,O0,N0⟩
 case round=>
  clear h0 G0 O0 N0 c2;obtain⟨m,hm,rfl,z,V,J,I⟩:=hrel;have lO:=Pk J;have lN:=Pk I;by_cases Y:m<A.length
  ·have a5:m<(Ic (F,G) (f,j) A m).length:=by rw[Bbf];exact Y
   have Z:=Bbg (F,G) (f,j) A m Y a5;have K:=Z4 (F,G) (f,j) A m Y;have L:=Bd8 (F,G) (f,j) A m Y;obtain⟨g,hg,b9,c0,y0,y1,z0,z1,-⟩:=Xo z.lo a5 f j;subst hg;have c1:=b7 g rfl;rw[Z]at y0 y1;generalize A[m]=x at *;obtain⟨l,t⟩:=x;simp only at y0 y1;have d2:=Bb z.blk 2;have lK:=z.k_lt;obtain⟨o0,o1⟩:=cl2 J;obtain⟨q0,q1⟩:=cl2 I;simp at d2 o0 o1 q0 q1;have kb:(m:Int)<(A.length:Int):=Bd;by_cases a3:l=F
   ·subst a3;by_cases a4:t=G
    ·subst a4;rw[Sp rfl]at K;have hS:=z.setLo (g:=g) (q:=m) rfl a5 f j;rw[<- K]at hS;have b1:=hS.1.alloc (O7 l t);have b3:((wr.setCell (.a g (m*2)) (.i f)).setCell (.a g (m*2+1)) (.i j)).heap.size=wr.heap.size:=by simp[World.setCell]
     have b4:((wr.setCell (.a g (m*2)) (.i f)).setCell (.a g (m*2+1)) (.i j)).heap[w.heap.size]?=_:=((Dm Bd).trans (Dm Bd)).trans J;have a6:((wr.setCell (.a g (m*2)) (.i f)).setCell (.a g (m*2+1)) (.i j)).heap[w.heap.size+1]?=_:=((Dm Bd).trans (Dm Bd)).trans I;have a0:(wr.alloc (O7 l t)).C (w.heap.size+1) 0 (.i f):=(Bb (Bk I (O7 l t)) 0).trans rfl;have a1:(wr.alloc (O7 l t)).C (w.heap.size+1) 1 (.i j):=(Bb (Bk I (O7 l t)) 1).trans rfl;have a2:(wr.alloc (O7 l t)).C k 2 (.s (.p g) A.length O):=(Bb (z.alloc (O7 l t)).blk 2).trans rfl;have s0:(((wr.setCell (.a g (m*2)) (.i f)).setCell (.a g (m*2+1)) (.i j)).alloc (O7 l t)).C (w.heap.size+1) 0 (.i f):=(Bb (Bk a6 (O7 l t)) 0).trans rfl;have s1:(((wr.setCell (.a g (m*2)) (.i f)).setCell (.a g (m*2+1)) (.i j)).alloc (O7 l t)).C (w.heap.size+1) 1 (.i j):=(Bb (Bk a6 (O7 l t)) 1).trans rfl;have s2:(((wr.setCell (.a g (m*2)) (.i f)).setCell (.a g (m*2+1)) (.i j)).alloc (O7 l t)).C k 2 (.s (.p g) A.length O):=(Bb b1.blk 2).trans rfl;clear K L Z b3;go_wp2
     go_region_held3 (fun N=>N.C k 2 (.s (.p g) A.length O)/\N.C (w.heap.size+1) 0 (.i f)/\N.C (w.heap.size+1) 1 (.i j)) (first|exact⟨a2,a0,a1⟩|exact⟨s2,s0,s1⟩) (fail)
     go_wp2;go_roundw
     case rel=>exact⟨m+1,Bd,Lt,b1.drew,(((V.trans hS.2).alloc _).drew),Bk b4 _,Bk a6 _⟩
     case measure=>simp[intOf];omega
    have c3:(t==G)=false:=by simp[a4]
    rw[<- L (by simp;exact a4)]at z;have a7:=z.alloc (O7 l t);have a8:=Bk J (O7 l t);have a9:=Bk I (O7 l t);clear K L Z a4;go_wp2;go_roundw
    case rel=>exact⟨m+1,Bd,Lt,a7,V.alloc _,a8,a9⟩
    case measure=>simp[intOf];omega
   have c4:(l==F)=false:=by simp[a3]
   rw[<- L (by simp;intro e;exact absurd e a3)]at z;have a7:=z.alloc (O7 l t);have a8:=Bk J (O7 l t);have a9:=Bk I (O7 l t);clear K L Z a3;go_wp2;go_roundw
   case rel=>exact⟨m+1,Bd,Lt,a7,V.alloc _,a8,a9⟩
   case measure=>simp[intOf];omega
  obtain rfl:m=A.length:=Bd;rw[Bgi]at z;have kb:¬(A.length:Int)<(A.length:Int):=Bd;have c2:=Bb z.blk 3;simp at c2;have h0:=z;have G0:=V;have O0:=J;have N0:=I;clear z V J I lO lN;go_wp2
  go_loopw [36] (fun s wr=>∃m:Nat,m<=D.length/\s=.i (m:Int)/\Eo wr B k c ⟨la,A.length,O,sa,D.length,Q⟩ ⟨Er (F,G) (f,j) A,Ic (F,G) (f,j) D m,br⟩/\Bn k w ⟨la,A.length,O,sa,D.length,Q⟩ wr ⟨la,A.length,O,sa,D.length,Q⟩/\wr.heap[w.heap.size]?=some (O7 F G)/\wr.heap[w.heap.size+1]?=some (O7 f j))
   (fun s _=>D.length-(intOf s).toNat)
  case atStart=>exact⟨0,Bd,rfl,by rw[Bd7];exact h0,G0,O0,N0⟩
  case round=>
   clear h0 G0 O0 N0 c2;obtain⟨m,hm,rfl,z,V,J,I⟩:=hrel;have lO:=Pk J;have lN:=Pk I;by_cases Y:m<D.length
   ·have a5:m<(Ic (F,G) (f,j) D m).length:=by rw[Bbf];exact Y
    have Z:=Bbg (F,G) (f,j) D m Y a5;have K:=Z4 (F,G) (f,j) D m Y;have L:=Bd8 (F,G) (f,j) D m Y;obtain⟨g,hg,b9,c0,y0,y1,z0,z1,-⟩:=Xo z.st a5 f j;subst hg;have c1:=b8 g rfl;rw[Z]at y0 y1;generalize D[m]=x at *;obtain⟨l,t⟩:=x;simp only at y0 y1;have d2:=Bb z.blk 3;have lK:=z.k_lt;obtain⟨o0,o1⟩:=cl2 J;obtain⟨q0,q1⟩:=cl2 I;simp at d2 o0 o1 q0 q1;have kb:(m:Int)<(D.length:Int):=Bd;by_cases a3:l=F
    ·subst a3;by_cases a4:t=G
     ·subst a4;rw[Sp rfl]at K;have hS:=z.setSt (g:=g) (q:=m) rfl a5 f j;rw[<- K]at hS;have b1:=hS.1.alloc (O7 l t);have b3:((wr.setCell (.a g (m*2)) (.i f)).setCell (.a g (m*2+1)) (.i j)).heap.size=wr.heap.size:=by simp[World.setCell]
      have b4:((wr.setCell (.a g (m*2)) (.i f)).setCell (.a g (m*2+1)) (.i j)).heap[w.heap.size]?=_:=((Dm Bd).trans (Dm Bd)).trans J;have a6:((wr.setCell (.a g (m*2)) (.i f)).setCell (.a g (m*2+1)) (.i j)).heap[w.heap.size+1]?=_:=((Dm Bd).trans (Dm Bd)).trans I;have a0:(wr.alloc (O7 l t)).C (w.heap.size+1) 0 (.i f):=(Bb (Bk I (O7 l t)) 0).trans rfl;have a1:(wr.alloc (O7 l t)).C (w.heap.size+1) 1 (.i j):=(Bb (Bk I (O7 l t)) 1).trans rfl;have a2:(wr.alloc (O7 l t)).C k 3 (.s (.p g) D.length Q):=(Bb (z.alloc (O7 l t)).blk 3).trans rfl;have s0:(((wr.setCell (.a g (m*2)) (.i f)).setCell (.a g (m*2+1)) (.i j)).alloc (O7 l t)).C (w.heap.size+1) 0 (.i f):=(Bb (Bk a6 (O7 l t)) 0).trans rfl;have s1:(((wr.setCell (.a g (m*2)) (.i f)).setCell (.a g (m*2+1)) (.i j)).alloc (O7 l t)).C (w.heap.size+1) 1 (.i j):=(Bb (Bk a6 (O7 l t)) 1).trans rfl;have s2:(((wr.setCell (.a g (m*2)) (.i f)).setCell (.a g (m*2+1)) (.i j)).alloc (O7 l t)).C k 3 (.s (.p g) D.length Q):=(Bb b1.blk 3).trans rfl;clear K L Z b3;go_wp2
      go_region_held3 (fun N=>N.C k 3 (.s (.p g) D.length Q)/\N.C (w.heap.size+1) 0 (.i f)/\N.C (w.heap.size+1) 1 (.i j)) (first|exact⟨a2,a0,a1⟩|exact⟨s2,s0,s1⟩) (fail)
      go_wp2;go_roundw
      case rel=>exact⟨m+1,Bd,Lt,b1.drew,(((V.trans hS.2).alloc _).drew),Bk b4 _,Bk a6 _⟩
      case measure=>simp[intOf];omega
     have c3:(t==G)=false:=by simp[a4]
     rw[<- L (by simp;exact a4)]at z;have a7:=z.alloc (O7 l t);have a8:=Bk J (O7 l t);have a9:=Bk I (O7 l t);clear K L Z a4;go_wp2;go_roundw
     case rel=>exact⟨m+1,Bd,Lt,a7,V.alloc _,a8,a9⟩
     case measure=>simp[intOf];omega
    have c4:(l==F)=false:=by simp[a3]
    rw[<- L (by simp;intro e;exact absurd e a3)]at z;have a7:=z.alloc (O7 l t);have a8:=Bk J (O7 l t);have a9:=Bk I (O7 l t);clear K L Z a3;go_wp2;go_roundw
    case rel=>exact⟨m+1,Bd,Lt,a7,V.alloc _,a8,a9⟩
    case measure=>simp[intOf];omega
   obtain rfl:m=D.length:=Bd;rw[Bgi]at z;have kb:¬(D.length:Int)<(D.length:Int):=Bd;clear lO lN;go_wp2;go_end0;exact⟨rfl,_,z,V⟩
def Blm(w:TW)(B k:Nat)(c:BnC)(v:FrV)(b:Ea)(h:Eo w B k c v b):Calls prog 274 #[.q k 0] w fun e p=>∃u:FrV,e=.r (.tuple #[u.val,.bool (Fo b).isSome])/\(∀y,Fo b=some y->u=v/\y=⟨b.lo,b.st⟩)/\Eo p B k c v b/\Bn k w v p v:=by
 have L:=h.k_lt;have N:=h.B_le;have O:=h.new (Wf _);have z:=Bb h.blk 2;have A:=Bb h.blk 3;have D:=Bb h.blk 5;simp at z A D;obtain⟨Q,V,F⟩:=b;obtain⟨f,g,i,j,l,m⟩:=v;simp only at z A D;have Y:=Bf w (O24 none 0 0 none 0 0);cases F with
 | true =>
  rw[Xx rfl];go_in;go_wp2;refine tb (.tuple #[.agg #[.s none 0 0,.s none 0 0],.bool false]) (by simp[results,results274,go_sem]) ?_;exact⟨⟨none,0,0,none,0,0⟩,rfl,fun y t=>by simp at t,h.alloc _,(Bn.refl _ _ _).alloc _⟩
 | false =>
  rw[Bt6 rfl];have G:(w.alloc (O24 none 0 0 none 0 0)).C k 2 (.s f g i):=(Bb (h.alloc (O24 none 0 0 none 0 0)).blk 2).trans rfl;have I:(w.alloc (O24 none 0 0 none 0 0)).C k 3 (.s j l m):=(Bb (h.alloc (O24 none 0 0 none 0 0)).blk 3).trans rfl;have J:(w.alloc (O24 f g i j l m)).C k 2 (.s f g i):=(Bb (h.alloc (O24 f g i j l m)).blk 2).trans rfl;have K:(w.alloc (O24 f g i j l m)).C k 3 (.s j l m):=(Bb (h.alloc (O24 f g i j l m)).blk 3).trans rfl;go_in;go_wp2
  go_region_held3 (fun p=>p.C k 2 (.s f g i)/\p.C k 3 (.s j l m)) (first|exact⟨G,I⟩|exact⟨J,K⟩) (fail)
  go_wp2;refine tb (.tuple #[.agg #[.s f g i,.s j l m],.bool true]) (by simp[results,results274,go_sem]) ?_;exact⟨⟨f,g,i,j,l,m⟩,rfl,fun y t=>⟨rfl,(Option.some.inj t).symm⟩,(h.alloc _).drew,((Bn.refl _ _ _).alloc _).drew⟩
def Bco(l:TP)(a:TA)(n c:Nat)(w:TW)(p:l.length<=10000)(h:TyR w (.s a n c) l):Calls prog 289 #[.s a n c] w fun e f=>∃b vc,e=.r (.s b l.length vc)/\Dp f w.heap.size (.s b l.length vc) l/\Bl w f:=by
 go_in;go_wp2_with (at_builtin;refine Pv rfl _ _ rfl w.heap.size _ [] l a n c rfl (Bvl _ _ _ _) rfl h Fm (Wf _) ?_)
 intro q t g i;obtain⟨b,vc,rfl⟩:=Bg g;go_wp2;go_ret;exact⟨b,vc,rfl,g,(Vm _ _).grown i (Wf _) (fun j m=>by cases m)⟩
theorem Br1{w:World}{s:Nat}{l b c e:Option Addr}{j K f h i m p q:Nat}{g z:TypeId}(t:w.heap[u]?=some (.cells #[.slice l j K,.slice b f h] g (0,0)))(v:w.heap[s]?=some (.cells #[.slice c i m,.slice e p q] z (0,0))):w.cell? ⟨u,0,none⟩=some (.slice l j K)/\w.cell? ⟨u,1,none⟩=some (.slice b f h)/\w.cell? ⟨s,0,none⟩=some (.slice c i m)/\w.cell? ⟨s,1,none⟩=some (.slice e p q):=by
 refine⟨?_,?_,?_,?_⟩
 ·rw[Bb t];rfl
 ·rw[Bb t];rfl
 ·rw[Bb v];rfl
 rw[Bb v];rfl
def Ti{s j n:Nat}{g:TypeId}{i:TX}{e:TV}(h:w.ownsRow u g j i n e)(m:s<=u):w.ownsRow s g j i n e:=by
 obtain⟨l,p|⟨f,q,z,a,c,d,r⟩⟩:=h
 ·exact⟨l,.inl p⟩
 exact⟨l,.inr ⟨f,q,z,a,Bvv m c,d,r⟩⟩
def Bhp(c:BnC)(v:FrV)(x:Be)(w:TW)(D:v.is x w):Calls prog 262 #[.agg #[.s (.p c.tg) c.T.length c.tc,.s c.ya c.yn c.yc],v.val,.i c.hi] w fun e b=>∃u:FrV, e=.r (.agg #[.s (.p c.tg) c.T.length c.tc,.s c.ya c.yn c.yc,.s u.la u.ln u.lc,.s u.sa u.sn u.sc,.i c.hi,.bool false])/\Dp b w.heap.size u.lv x.locals/\Dp b w.heap.size u.sv x.stack/\(∀j,u.lv.ownBlock=some j->u.sv.ownBlock≠some j)/\Bl w b:=by
 have a0:=fun b (h:Bl w b)=>Bco x.locals v.la v.ln v.lc b (by have:=D.hl;omega) (D.lo.below h);have a1:=fun b (h:Bl w b)=>Bco x.stack v.sa v.sn v.sc b (by have:=D.hs;omega) (D.st.below h);obtain⟨m,q,t,z,A,B⟩:=v;simp only[FrV.val]at a0 a1 ⊢;have b2:=Bc a0;have b3:=Bc a1;clear a0 a1 D;have I:=Is w (O2 (.p c.tg) c.T.length c.tc c.ya c.yn c.yc) (O24 m q t z A B) (O23 none 0 0 none 0 0 none 0 0 none 0 0 0 false);obtain⟨J,K,Z0⟩:=W8 w (O2 (.p c.tg) c.T.length c.tc c.ya c.yn c.yc) (O24 m q t z A B) (O23 none 0 0 none 0 0 none 0 0 none 0 0 0 false);have t0:(((w.alloc (O2 (.p c.tg) c.T.length c.tc c.ya c.yn c.yc)).alloc (O24 m q t z A B)).alloc (O23 none 0 0 none 0 0 none 0 0 none 0 0 0 false)).C w.heap.size 0 (.s (.p c.tg) c.T.length c.tc):=(Bb J 0).trans rfl;have t1:(((w.alloc (O2 (.p c.tg) c.T.length c.tc c.ya c.yn c.yc)).alloc (O24 m q t z A B)).alloc (O23 none 0 0 none 0 0 none 0 0 none 0 0 0 false)).C w.heap.size 1 (.s c.ya c.yn c.yc):=(Bb J 1).trans rfl;have x0:(((w.alloc (O2 (.p c.tg) c.T.length c.tc c.ya c.yn c.yc)).alloc (O24 m q t z A B)).alloc (O23 none 0 0 none 0 0 none 0 0 none 0 0 0 false)).C (w.heap.size+1) 0 (.s m q t):=(Bb K 0).trans rfl;have x1:(((w.alloc (O2 (.p c.tg) c.T.length c.tc c.ya c.yn c.yc)).alloc (O24 m q t z A B)).alloc (O23 none 0 0 none 0 0 none 0 0 none 0 0 0 false)).C (w.heap.size+1) 1 (.s z A B):=(Bb K 1).trans rfl;have lT:=Pk J;have lX:=Pk K;go_in;go_wp2
 go_region_held3 (fun b=>b.C w.heap.size 0 (.s (.p c.tg) c.T.length c.tc)/\b.C w.heap.size 1 (.s c.ya c.yn c.yc)/\b.C (w.heap.size+1) 0 (.s m q t)/\b.C (w.heap.size+1) 1 (.s z A B))
  (exact Br1 (by repeat (first|(with_reducible refine(Dm Bd).trans ?_)|(with_reducible refine stay L ?_)|(with_reducible refine stay F ?_)|exact J)) (by repeat (first|(with_reducible refine(Dm Bd).trans ?_)|(with_reducible refine stay L ?_)|(with_reducible refine stay F ?_)|exact K)))
  (first|(go_at_call 289;refine(Ba b2 _ (by first|exact I.drew|exact a2)).mono ?_;rintro e w5 ⟨a3,a4,rfl,a9,L⟩;have a5:Bl w w5:=(fun G=>Below.trans G (L.mono (Below.size G))) (by first|exact I.drew|exact a2);have f:=stay L (by first|exact Z0|exact g);have N:=Bb f 0;have q0:=Bj f 0;have O:=Bb f 1;have q1:=Bj f 1;have Q:=Bb f 2;have q2:=Bj f 2;have V:=Bb f 3;have q3:=Bj f 3;have Y:=Bb f 4;have q4:=Bj f 4;have Z:=Bb f 5;have q5:=Bj f 5;simp at N O Q V Y Z)|(go_at_call 289;refine(Ba b3 _ (by first|exact I.drew|exact a5)).mono ?_;rintro e w6 ⟨a6,a7,rfl,b0,F⟩;have a2:Bl w w6:=(fun G=>Below.trans G (F.mono (Below.size G))) (by first|exact I.drew|exact a5);have g:=stay F (by first|exact Z0|exact f);have N:=Bb g 0;have q0:=Bj g 0;have O:=Bb g 1;have q1:=Bj g 1;have Q:=Bb g 2;have q2:=Bj g 2;have V:=Bb g 3;have q3:=Bj g 3;have Y:=Bb g 4;have q4:=Bj g 4;have Z:=Bb g 5;have q5:=Bj g 5;simp at N O Q V Y Z))
 have a8:∀j,(Value.slice a3 x.locals.length a4).ownBlock=some j->w.heap.size+3<=j/\j<w5.heap.size:=fun j l=>by
  have:=a9.lt j l;simp at this;omega
 have b1:∀j,(Value.slice a6 x.stack.length a7).ownBlock=some j->w5.heap.size<=j:=fun j l=>(b0.lt j l).1;have b4:=a5.size;have lZ:=Pk f;have lr:=Pk g;go_wp2_with fail;refine tb (.agg #[.s (.p c.tg) c.T.length c.tc,.s c.ya c.yn c.yc,.s a3 x.locals.length a4,.s a6 x.stack.length a7,.i c.hi,.bool false]) (by simp[results,results262,go_sem,N,O,Q,V,Y,Z]) ?_;refine⟨⟨a3,x.locals.length,a4,a6,x.stack.length,a7⟩,rfl,?_,?_,fun j l b5=>?_,?_⟩
 ·refine Ko (Ti (Ko a9 (fun j l=>F.block j (a8 j l).2)) Fm) (fun j l=>?_);have:=a8 j l
  repeat (with_reducible refine(Dm Bd).trans ?_)
  rfl
 ·refine Ko (Ti b0 b4) (fun j l=>?_);have:=b1 j l
  repeat (with_reducible refine(Dm Bd).trans ?_)
  rfl
 ·have:=a8 j l;have:=b1 j b5;omega
 repeat (with_reducible refine Bvq ?_ Fm _)
 exact a2
def Vb(w:TW):Calls prog 291 #[] w fun e b=>e=.r (.agg #[.i 1,.i 0])/\Bl w b:=by
 go_in;go_wp2;refine tb (.agg #[.i 1,.i 0]) (by simp[results,results291,go_sem]) ?_;exact⟨rfl,by repeat (first|refine Bvq ?_ Fr _|refine Bwu ?_ Fr _|exact Vm _ _)⟩
def Bmy(w:TW):Calls prog 295 #[] w fun e b=>e=.r (.agg #[.i 2,.i 0])/\Bl w b:=by
 go_in;go_wp2;refine tb (.agg #[.i 2,.i 0]) (by simp[results,results295,go_sem]) ?_;exact⟨rfl,by repeat (first|refine Bvq ?_ Fr _|refine Bwu ?_ Fr _|exact Vm _ _)⟩
def N6(c:Int)(w:TW):Calls prog 165 #[.i c] w fun e b=>e=.r (.agg #[.i 3,.i c])/\Bl w b:=by
 go_in;go_wp2;refine tb (.agg #[.i 3,.i c]) (by simp[results,results165,go_sem]) ?_;exact⟨rfl,by repeat (first|refine Bvq ?_ Fr _|refine Bwu ?_ Fr _|exact Vm _ _)⟩
def Bge(c:Int)(w:TW):Calls prog 268 #[.i c] w fun e b=>e=.r (.agg #[.i 4,.i c])/\Bl w b:=by
 go_in;go_wp2;refine tb (.agg #[.i 4,.i c]) (by simp[results,results268,go_sem]) ?_;exact⟨rfl,by repeat (first|refine Bvq ?_ Fr _|refine Bwu ?_ Fr _|exact Vm _ _)⟩
def Blu (a:TA)(n B:Nat):Prop:=∀g o,a=some ⟨g,o,none⟩->n<=g\/g<B
def Bb7(m:PM)(w:TW):Calls prog 294 #[m.val] w fun e i=>∃a c,e=.r (.s a (Ei (m.r1,m.r2)).length c)/\TyR i (.s a (Ei (m.r1,m.r2)).length c) (Ei (m.r1,m.r2))/\Blu a w.heap.size 0/\Bl w i:=by
 obtain⟨j,l,p,q,t,b,f,v,z,A,cn,B,C,D,F,G,I,J⟩:=m;simp only[PM.val];unfold Ei;by_cases h:b=0;·subst h;simp only[By3];go_in;go_wp2;go_ret;exact⟨none,0,rfl,TyR.nil _,fun g o e=>(by cases e),QN _⟩
 have N:(b==0)=false:=by simp[h]
 simp only[h,Bxk];have K:=Bx w (O18 j l p q t b f v z A cn B C D F G I J) (O7 b f);have L:=TyR.new1 (w.alloc (O18 j l p q t b f v z A cn B C D F G I J)) b f;clear h;go_in;go_wp2;go_ret;exact⟨some ⟨w.heap.size+1,0,none⟩,1,rfl,by simpa using L,fun g o e=>(by simp at e;omega),K⟩
structure Ru(b:PBd)(w:World)(bb:Nat)(lm:List (Rd.Mth × Eh))(fl:List (Value × List (Int × Int))):Prop where
 ml:b.fl2=lm.length
 m6:lm.length<=1000
 ms:Eb w bb (.slice b.fa2 b.fl2 b.fc2) lm
 yl:b.yn=fl.length
 y14:fl.length<=14
 yf:∀p∈fl,p.2.length<=1000
 fs:Np w bb (.slice b.ya b.yn b.yc) fl
 tl:b.T.length<=1000
 tr:Dl w b.tg b.T
 ll:b.L.length<=100000
 ins:Hs w bb (.slice b.la b.L.length b.lc) b.L
def Ru.below{c:PBd}{b:TW}{L:List (Rd.Mth×Eh)}{g:List (Value×List (Int×Int))}(h:Ru c w u L g)(f:Bl w b):Ru c b u L g :=
 ⟨h.ml,h.m6,h.ms.kp (Kp.of_below (e:=none) f) Ck Ck Ck Ck Ck,h.yl,h.y14,h.yf,h.fs.below f,h.tl,h.tr.below f,h.ll,h.ins.kp (Kp.of_below (e:=none) f) Ck⟩
theorem Eb.mth2{w:World}{a:Option Addr}{n j:Nat}{L:List (Rd.Mth×Eh)}(h:Eb w u (.slice a n j) L)(A:k<L.length):∃(m:PM) (g:Nat),a=some ⟨g,0,none⟩/\g<w.heap.size/\(∀e v,m.list[e]?=some v->w.cell? ⟨g,k*10+e,none⟩=some v)/\m.is L[k].1 w u/\(.slice m.pa m.pl m.pc:Value)=L[k].2.params:=by
 obtain⟨B,I⟩:=h;obtain⟨xa,xc,C⟩:=Bg B;simp only[Value.slice.injEq]at C;obtain⟨rfl,rfl,rfl⟩:=C;obtain⟨g,J,K,_,N⟩:=Cf B Bd;obtain⟨i,p,q,s,D,t⟩:=I _ (Bvh A);have F:=fun e z=>Bp7 L k A e z;generalize L[k]=x at *;obtain⟨x,f⟩:=x;obtain⟨up,uc,uh,um⟩:=f;simp only at i p q t F;obtain⟨O,Q,rfl⟩:=Bg i;obtain⟨V,Y,rfl⟩:=Bg p;obtain⟨Z,a0,rfl⟩:=Bg q;obtain⟨ma,mc,rfl⟩:=Bg t.1;have a1:s.length=x.maps.length:=by rw[<- D];simp
 refine⟨⟨x.cl,x.name,O,x.params.length,Q,x.result.1,x.result.2,x.locals,x.stack,V,x.code.length,Y,Z,x.handlers.length,a0,ma,s.length,mc⟩,g,J,K,?_,⟨rfl,rfl,rfl,rfl,rfl,rfl,rfl,i,rfl,p,rfl,q,a1,s,D,t⟩,rfl⟩;intro e v G;have z:e<10:=by
  have:=(List.getElem?_eq_some_iff.1 G).1;simpa[PM.list] using this
 obtain⟨e1,e2⟩:=F e z;rw[N _ e2,e1,<- G];rfl
def Bb6(b:PBd)(j:Nat)(c:List (Rd.Mth×Eh))(fl:List (Value×List (Int×Int)))(n:Nat)(w:TW)(h:Ru b w j c fl)(hn:n<c.length):Calls prog 293 #[b.val,.i (n:Int)] w fun e l=>∃m:PM,e=.returned m.val/\m.is c[n].1 l j/\(.s m.pa m.pl m.pc:TX)=c[n].2.params/\Bl w l:=by
 obtain⟨q,g,p,a1,Et,hq,f⟩:=h.ms.mth2 hn;obtain⟨y0,y1,y2,y3,y4,y5,y6,y7,y8,y9⟩:=Ub Et;have t:=h.ml;have v:=h.yl;obtain⟨a2,a3,a4,a5,a6,a7,tg,tc,ya,yn,yc,cl,nm,pa,pl,pc,r1,r2,lo,st,ca,cn,cc,ha,hl,hc,ma,ml,mc,la,lc,T,L⟩:=b;simp only at t v p;subst t v p;simp only[PBd.val];generalize c[n]=x at *;have kb:(n:Int)<(c.length:Int):=Bd;have a8:¬(n:Int)<0:=Bd;obtain⟨z,A,B,C,D,F,G,I,J,K,N,O,Q,V,Y,Z,qh,qi⟩:=q;simp only at y0 y1 y2 y3 y4 y5 y6 y7 y8 y9 f;have a0:=Bc f;clear Et h f;go_in;go_wp2;refine tb (.agg #[.i z,.i A,.s B C D,.i F,.i G,.i I,.i J,.s K N O,.s Q V Y,.s Z qh qi]) (by simp[results,results293,go_sem]) ?_;exact⟨⟨z,A,B,C,D,F,G,I,J,K,N,O,Q,V,Y,Z,qh,qi⟩,rfl,hq.below (Bx _ _ _),Ba a0,Bx _ _ _⟩
def Ld (L:List Cd.Ins)(c place:Int):Bool:=(Cd.findAt place L).isSome&&((Cd.orZero (Cd.findAt place L)).op==15)&&((Cd.orZero (Cd.findAt place L)).n==c)
def Bkn(b:PBd)(s:Nat)(z:List (Rd.Mth×Eh))(A:List (Value×List (Int×Int)))(j c:Int)(w:TW)(h:Ru b w s z A):Calls prog 290 #[b.val,.i j,.i c] w fun e l=>e=.r (.bool (Ld b.L c j))/\Bl w l:=by
 have p:=fun l (B:Bl w l)=>Bdi b.L b.la b.lc s j l h.ll (h.below B).ins;unfold Ld;generalize Cd.findAt j b.L=r at *;obtain⟨D,F,G,I,J,K,N,O,ya,yn,yc,Q,V,Y,Z,pc,r1,r2,lo,st,ca,cn,cc,ha,hl,hc,ma,ml,mc,la,lc,T,L⟩:=b;simp only[PBd.val]at p ⊢;have m:=Bc p;clear p h;cases r with
 | none =>
  go_in;go_wp2_with fail;refine Qm (Ba m _ (QN _)) ?_;intro t g;have f:=((Vm w.heap.size w).alloc (Wf _) _).trans (g.mono Fr);go_wp2;go_ret;exact⟨rfl,f.alloc f.size _⟩
 | some x =>
  obtain⟨xp,v,xn⟩:=x;simp only[Cd.orZero]at m ⊢;by_cases q:v=15;·subst q;go_in;go_wp2_with fail;refine Qm (Ba m _ (QN _)) ?_;intro t g;have f:=((Vm w.heap.size w).alloc (Wf _) _).trans (g.mono Fr);go_wp2;go_ret;exact⟨Fr,f.alloc f.size _⟩
  have C:(v==15)=false:=by simp[q]
  clear q;rw[C];go_in;go_wp2_with fail;refine Qm (Ba m _ (QN _)) ?_;intro t g;have f:=((Vm w.heap.size w).alloc (Wf _) _).trans (g.mono Fr);go_wp2;go_ret;exact⟨rfl,f.alloc f.size _⟩
def Ij (fs:List (List (Int × Int)))(ms:List Rd.Mth)(res:Int × Int)(op n:Int):List (Int × Int) :=
 if op=7\/op=8\/op=9\/op=10\/op=13 then [(1,0),(1,0)] else if op=12\/op=25 then [(1,0)] else if op=14\/op=19 then [(3,0)]
 else if op=17 then [(3,(Lf fs n).1)] else if op=18 then [(3,(Lf fs n).1),(Lf fs n).2]
 else if op=20 then (ms.getD n.toNat ⟨0,0,[],(0,0),0,0,[],[],[]⟩).params else if op=21 then (3,(ms.getD n.toNat ⟨0,0,[],(0,0),0,0,[],[],[]⟩).cl)::(ms.getD n.toNat ⟨0,0,[],(0,0),0,0,[],[],[]⟩).params
 else if op=22 then Ei res else if op=23 then [(3,1)] else []
def Hj (fs:List (List (Int × Int)))(ms:List Rd.Mth)(op n:Int):List (Int × Int) :=
 if op=0\/op=24\/op=7\/op=8\/op=9\/op=10 then [(1,0)] else if op=1 then [(2,0)] else if op=17 then [(Lf fs n).2]
 else if op=19 then [(3,n)] else if op=20\/op=21 then Ei (ms.getD n.toNat ⟨0,0,[],(0,0),0,0,[],[],[]⟩).result else []
def Bkj(b:PBd)(bb B:Nat)(f:List (Rd.Mth×Eh))(K:List (Value×List (Int×Int)))(pp op:Int)(n:Nat)(w:TW)(h:Ru b w bb f K)(hn:n<=100000)(hB:∀p∈f,∀g,p.2.params.ownBlock=some g->g<B)(a0:∀p∈f,p.1.params.length<=1000) (b6:op=20\/op=21->n<f.length):Calls prog 270 #[b.val,.agg #[.i pp,.i op,.i (n:Int)]] w fun e I=>∃a c,e=.r (.s a (Ij (K.map Prod.snd) (f.map Prod.fst) (b.r1,b.r2) op (n:Int)).length c)/\TyR I (.s a (Ij (K.map Prod.snd) (f.map Prod.fst) (b.r1,b.r2) op (n:Int)).length c) (Ij (K.map Prod.snd) (f.map Prod.fst) (b.r1,b.r2) op (n:Int))/\Blu a w.heap.size B/\Bl w I:=by
 have a4:=fun I (hb:Bl w I)=>Bew (aa:=some ⟨b.tg,0,none⟩) (an:=b.T.length) (ac:=b.tc) K bb b.ya b.yc (n:Int) I (by have:=h.y14;omega) ⟨Bd,Bd⟩ h.yf (by have:=(h.below hb).fs;rw[h.yl]at this;exact this);have a7:=fun (A:n<f.length) I (hb:Bl w I)=>Bb6 b bb f K n I (h.below hb) A;have a8:=fun (m:PM) I=>Bb7 m I;have b7:=h.ml;have b8:=h.yl;have c6:=h.ms;obtain⟨a9,b0,b1,b2,f3,b3,tg,tc,ya,yn,yc,cl,nm,pa,pl,pc,r1,r2,lo,st,ca,cn,cc,ha,A,hc,ma,ml,mc,la,lc,T,L⟩:=b;simp only at b7 b8 c6;subst b7 b8;simp only[PBd.val,PM.val]at a4 a7 a8 ⊢;generalize a5:Ij (K.map Prod.snd) (f.map Prod.fst) (r1,r2) op (n:Int)=R;unfold Ij at a5;have a2:∀A:n<f.length,(f.map Prod.fst).getD ((n:Nat):Int).toNat ⟨0,0,[],(0,0),0,0,[],[],[]⟩=f[n].1:=fun A=>by simp[Th,A]
 generalize Lf (K.map Prod.snd) (n:Int)=FD at *;obtain⟨fo,Y,Z⟩:=FD;simp only at a4 a5;have V:=Bc a5;have b9:=Bc a4;have c0:=Bc a7;have c7:=Bc a8;have c1:=Bc a2;have c8:=Bc hB;have c2:=Bc a0;have c3:=Bc b6;clear a4 a7 a8 a5 h a2 hB a0 b6;have F:=Bx w (O25 a9 b0 b1 b2 f.length b3 (.p tg) T.length tc ya K.length yc cl nm pa pl pc r1 r2 lo st ca cn cc ha A hc ma ml mc la L.length lc) (O15 pp op (n:Int));have U0:=Cb w (O25 a9 b0 b1 b2 f.length b3 (.p tg) T.length tc ya K.length yc cl nm pa pl pc r1 r2 lo st ca cn cc ha A hc ma ml mc la L.length lc) (O15 pp op (n:Int));have I0:=Bv w (O25 a9 b0 b1 b2 f.length b3 (.p tg) T.length tc ya K.length yc cl nm pa pl pc r1 r2 lo st ca cn cc ha A hc ma ml mc la L.length lc) (O15 pp op (n:Int));by_cases l:op=7\/op=8\/op=9\/op=10\/op=13
 ·rcases l with rfl|rfl|rfl|rfl|rfl
  all_goals
   have z:Hid (R=[(1,0),(1,0)]):=by unfold Hid;rw[<- Ba V];simp
   go_in;go_wp2_with fail;refine Qb (Vb _) F ?_;intro v N t;have G:=t.size;go_wp2_with fail;refine Qm (Vb _) ?_;intro J D;have O:=t.trans (D.mono G);have a1:=O.size;have Q:=O.alloc a1 (O22 1 0 1 0);go_wp2;go_ret;rw[Ba z];exact⟨some ⟨J.heap.size,0,none⟩,2,rfl,TyR.new2 J _ _ _ _,fun g o e=>(by simp at e;omega),Q⟩
 have n7:(op==7)=false:=Fm;have n8:(op==8)=false:=Fm;have n9:(op==9)=false:=Fm;have f4:(op==10)=false:=Fm;have f5:(op==13)=false:=Fm;have i7:¬(op=7\/op=8\/op=9\/op=10\/op=13):=l;clear l;by_cases l:op=12\/op=25
 ·rcases l with rfl|rfl
  all_goals
   have z:Hid (R=[(1,0)]):=by unfold Hid;rw[<- Ba V];simp
   go_in;go_wp2_with fail;refine Qb (Vb _) F ?_;intro v N t;have G:=t.size;have Q:=t.alloc G (O7 1 0);go_wp2;go_ret;rw[Ba z];exact⟨some ⟨v.heap.size,0,none⟩,1,rfl,TyR.new1 v _ _,fun g o e=>(by simp at e;omega),Q⟩
 have f6:(op==12)=false:=Fm;have f7:(op==25)=false:=Fm;have c9:¬(op=12\/op=25):=l;clear l;by_cases l:op=14\/op=19
 ·rcases l with rfl|rfl
  all_goals
   have z:Hid (R=[(3,0)]):=by unfold Hid;rw[<- Ba V];simp
   go_in;go_wp2_with fail;refine Qb (N6 0 _) F ?_;intro v N t;have G:=t.size;have Q:=t.alloc G (O7 3 0);go_wp2;go_ret;rw[Ba z];exact⟨some ⟨v.heap.size,0,none⟩,1,rfl,TyR.new1 v _ _,fun g o e=>(by simp at e;omega),Q⟩
 have f8:(op==14)=false:=Fm;have f9:(op==19)=false:=Fm;have d0:¬(op=14\/op=19):=l;clear l;by_cases l:op=17
 ·subst l;have z:Hid (R=[(3,fo)]):=by unfold Hid;rw[<- Ba V];simp
  go_in;go_wp2_with fail;refine Qb (Ba b9 _ F) F ?_;intro v N t;have G:=t.size;go_wp2_with fail;refine Qm (N6 fo _) ?_;intro J D;have O:=(t.alloc G (O7 Y Z)).trans (D.mono Fm);have a1:=O.size;have Q:=O.alloc a1 (O7 3 fo);go_wp2;go_ret;rw[Ba z];exact⟨some ⟨J.heap.size,0,none⟩,1,rfl,TyR.new1 J _ _,fun g o e=>(by simp at e;omega),Q⟩
 have g0:(op==17)=false:=Fm;have d1:¬(op=17):=l;clear l;by_cases l:op=18
 ·subst l;have z:Hid (R=[(3,fo),(Y,Z)]):=by unfold Hid;rw[<- Ba V];simp
  go_in;go_wp2_with fail;refine Qb (Ba b9 _ F) F ?_;intro v N t;have G:=t.size;have TA:=Bf v (O7 Y Z);have p0:(v.alloc (O7 Y Z)).C v.heap.size 0 (.i Y):=(Bb TA 0).trans rfl;have p1:(v.alloc (O7 Y Z)).C v.heap.size 1 (.i Z):=(Bb TA 1).trans rfl;have lT:=Pk TA;go_wp2
  go_region_held3 (fun I=>I.C v.heap.size 0 (.i Y)/\I.C v.heap.size 1 (.i Z)) (first|exact⟨p0,p1⟩|exact⟨QC D lT p0,QC D lT p1⟩|exact⟨QA (QL D lT) (QC D lT p0),QA (QL D lT) (QC D lT p1)⟩) (first|(go_at_call 165;refine(N6 fo _).mono ?_;rintro e J ⟨rfl,D⟩))
  have O:=(t.alloc G (O7 Y Z)).drew.trans (D.mono Fm);have a1:=O.size;have Q:=O.alloc a1 (O22 3 fo Y Z);go_wp2;go_ret;rw[Ba z];exact⟨some ⟨J.heap.size,0,none⟩,2,rfl,TyR.new2 J _ _ _ _,fun g o e=>(by simp at e;omega),Q⟩
 have g1:(op==18)=false:=Fm;have d2:¬(op=18):=l;clear l;by_cases l:op=20
 ·subst l;have A:=Ba c3 Fr;have a2:=Ba c1 A;have d3:=Ba c2 f[n] (Bvh A);have z:Hid (R=f[n].1.params):=by unfold Hid;rw[<- Ba V];rw[a2];simp
  go_in;go_wp2_with fail;refine(Ba c0 A _ F).mono ?_;rintro e v ⟨q,rfl,hq,a6,N⟩;have t:=QB F N;have G:=t.size;have a0:=TyR.of_tys hq.ps;have a3:=hq.pl;have b4:=fun g=>Ba c8 f[n] (Bvh A) g;rw[<- a6]at b4;obtain⟨q1,q2,q3,q4,q5,q6,q7,q8,q9,qa,qb,qc,qd,qe,qf,qg,qh,qi⟩:=q;simp only at a0 b4 a3;subst a3;clear hq a6;have g2:∀w:TW,(Instr.field 133 (.agg #[.i q1,.i q2,.s q3 f[n].1.params.length q5,.i q6,.i q7,.i q8,.i q9,.s qa qb qc,.s qd qe qf,.s qg qh qi]) 2).run prog w=.ok (.s q3 f[n].1.params.length q5) w:=fun _=>Le;go_wp2;go_ret;rw[Ba z];exact⟨q3,q5,rfl,a0,fun g o e=>(by subst e;exact Or.inr (b4 g rfl)),t⟩
 have g3:(op==20)=false:=Fm;have d4:¬(op=20):=l;clear l;by_cases l:op=21
 ·subst l;have A:=Ba c3 Fr;have a2:=Ba c1 A;have d3:=Ba c2 f[n] (Bvh A);have z:Hid (R=(3,f[n].1.cl)::f[n].1.params):=by unfold Hid;rw[<- Ba V];rw[a2];simp
  go_in;go_wp2_with fail;refine(Ba c0 A _ F).mono ?_;rintro e v ⟨q,rfl,hq,a6,N⟩;have t:=QB F N;have G:=t.size;have a0:=TyR.of_tys hq.ps;have a3:=hq.pl;have c4:=hq.cl;obtain⟨q1,q2,q3,q4,q5,q6,q7,q8,q9,qa,qb,qc,qd,qe,qf,qg,qh,qi⟩:=q;simp only at a0 a3 c4;subst a3 c4;have MA:=Bf v (O18 f[n].1.cl q2 q3 f[n].1.params.length q5 q6 q7 q8 q9 qa qb qc qd qe qf qg qh qi);have ma:=Bb MA 0;have mb:=Bb MA 2;have lM:=Pk MA;simp at ma mb;clear hq a6;go_wp2_with fail;refine Qm (N6 _ _) ?_;intro J D;have O:=(t.alloc G (O18 f[n].1.cl q2 q3 f[n].1.params.length q5 q6 q7 q8 q9 qa qb qc qd qe qf qg qh qi)).trans (D.mono Fm);have a1:=O.size;have M2:=stay D MA;have mc:=Bb M2 2;have g4:=Pk M2;simp at mc;have d5:=((a0.below (QN (O18 f[n].1.cl q2 q3 f[n].1.params.length q5 q6 q7 q8 q9 qa qb qc qd qe qf qg qh qi))).below D).below (QN (O7 3 f[n].1.cl));have c5:(J.alloc (O7 3 f[n].1.cl)).ownsRow w.heap.size 31 2 (.s (.p J.heap.size) 1 1) [((3:Int),f[n].1.cl)].length (Bu [((3:Int),f[n].1.cl)]):=⟨rfl,.inr ⟨J.heap.size,1,_,rfl,a1,Bf J _,Fr,Mc,rfl,rfl⟩⟩;go_wp2_with (at_builtin;refine Pv rfl _ _ rfl w.heap.size _ [((3:Int),f[n].1.cl)] f[n].1.params q3 f[n].1.params.length q5 rfl c5 rfl d5 Fm Fm ?_)
  intro v' w3 b5 d6;obtain⟨va,vc,rfl⟩:=Bg b5;have d7:=(O.alloc a1 (O7 3 f[n].1.cl)).grown d6 Fm (fun j hj=>(c5.lt j hj).1);have d8:=fun j hj=>(b5.lt j hj).1;go_wp2;go_ret;rw[Ba z];exact⟨va,vc,Fr,by simpa using Sc b5 Fr,fun g o e=>(by subst e;exact Or.inl (d8 g rfl)),d7⟩
 have g5:(op==21)=false:=Fm;have d9:¬(op=21):=l;clear l;by_cases l:op=22
 ·subst l;have z:Hid (R=Ei (r1,r2)):=by unfold Hid;rw[<- Ba V];simp
  go_in;go_wp2_with fail;refine(Ba c7 ⟨cl,nm,pa,pl,pc,r1,r2,lo,st,ca,cn,cc,ha,A,hc,ma,ml,mc⟩ _).mono ?_;rintro e v ⟨a,c,rfl,ht,f0,N⟩;have t:=QB F N;go_wp2;go_ret;rw[Ba z];exact⟨a,c,rfl,ht,fun g o e=>(by have:=f0 g o e;simp at this;omega),t⟩
 have g6:(op==22)=false:=Fm;have f1:¬(op=22):=l;clear l;by_cases l:op=23
 ·subst l;have z:Hid (R=[(3,1)]):=by unfold Hid;rw[<- Ba V];simp
  go_in;go_wp2_with fail;refine Qb (N6 1 _) F ?_;intro v N t;have G:=t.size;have Q:=t.alloc G (O7 3 1);go_wp2;go_ret;rw[Ba z];exact⟨some ⟨v.heap.size,0,none⟩,1,rfl,TyR.new1 v _ _,fun g o e=>(by simp at e;omega),Q⟩
 have g7:(op==23)=false:=Fm;have f2:¬(op=23):=l;clear l;have z:Hid (R=[]):=by unfold Hid;rw[<- Ba V];simp[i7,c9,d0,d1,d2,d4,d9,f1,f2]
 go_in;go_wp2;go_ret;rw[Ba z];exact⟨none,0,rfl,TyR.nil _,fun g o e=>(by cases e),F⟩
def Bh6(b:PBd)(Z B:Nat)(f:List (Rd.Mth×Eh))(z:List (Value×List (Int×Int)))(Q op:Int)(n:Nat)(w:TW)(h:Ru b w Z f z)(hn:n<=100000)(hB:∀p∈f,∀g,p.2.params.ownBlock=some g->g<B)(a9:∀p∈f,p.1.params.length<=1000) (b0:op=20\/op=21->n<f.length):Calls prog 272 #[b.val,.agg #[.i Q,.i op,.i (n:Int)]] w fun e C=>∃a c,e=.r (.s a (Hj (z.map Prod.snd) (f.map Prod.fst) op (n:Int)).length c)/\TyR C (.s a (Hj (z.map Prod.snd) (f.map Prod.fst) op (n:Int)).length c) (Hj (z.map Prod.snd) (f.map Prod.fst) op (n:Int))/\Blu a w.heap.size B/\Bl w C:=by
 have V:=fun C (hb:Bl w C)=>Bew (aa:=some ⟨b.tg,0,none⟩) (an:=b.T.length) (ac:=b.tc) z Z b.ya b.yc (n:Int) C (by have:=h.y14;omega) ⟨Bd,Bd⟩ h.yf (by have:=(h.below hb).fs;rw[h.yl]at this;exact this);have a0:=fun (t:n<f.length) C (hb:Bl w C)=>Bb6 b Z f z n C (h.below hb) t;have a1:=fun (m:PM) C=>Bb7 m C;have b1:=h.ml;have b2:=h.yl;have b4:=h.ms;obtain⟨a2,a3,a4,a5,d0,a6,tg,tc,ya,yn,yc,cl,nm,pa,pl,pc,r1,r2,lo,st,ca,cn,cc,ha,t,hc,ma,ml,mc,la,lc,T,L⟩:=b;simp only at b1 b2 b4;subst b1 b2;simp only[PBd.val,PM.val]at V a0 a1 ⊢;generalize Y:Hj (z.map Prod.snd) (f.map Prod.fst) op (n:Int)=R;unfold Hj at Y;have J:∀t:n<f.length,(f.map Prod.fst).getD ((n:Nat):Int).toNat ⟨0,0,[],(0,0),0,0,[],[],[]⟩=f[n].1:=fun t=>by simp[Th,t]
 generalize Lf (z.map Prod.snd) (n:Int)=FD at *;obtain⟨fo,K,N⟩:=FD;simp only at V Y;have I:=Bc Y;have b5:=Bc V;have b6:=Bc a0;have b7:=Bc a1;have b8:=Bc J;have d1:=Bc hB;have b9:=Bc a9;have c0:=Bc b0;clear V a0 a1 Y h J hB a9 b0;have F:=Bx w (O25 a2 a3 a4 a5 f.length a6 (.p tg) T.length tc ya z.length yc cl nm pa pl pc r1 r2 lo st ca cn cc ha t hc ma ml mc la L.length lc) (O15 Q op (n:Int));have U0:=Cb w (O25 a2 a3 a4 a5 f.length a6 (.p tg) T.length tc ya z.length yc cl nm pa pl pc r1 r2 lo st ca cn cc ha t hc ma ml mc la L.length lc) (O15 Q op (n:Int));have I0:=Bv w (O25 a2 a3 a4 a5 f.length a6 (.p tg) T.length tc ya z.length yc cl nm pa pl pc r1 r2 lo st ca cn cc ha t hc ma ml mc la L.length lc) (O15 Q op (n:Int));by_cases j:op=0\/op=24\/op=7\/op=8\/op=9\/op=10
 ·rcases j with rfl|rfl|rfl|rfl|rfl|rfl
  all_goals
   have A:Hid (R=[(1,0)]):=by unfold Hid;rw[<- Ba I];simp
   go_in;go_wp2_with fail;refine Qb (Vb _) F ?_;intro v O l;have D:=l.size;have G:=l.alloc D (O7 1 0);go_wp2;go_ret;rw[Ba A];exact⟨some ⟨v.heap.size,0,none⟩,1,rfl,TyR.new1 v _ _,fun g o e=>(by simp at e;omega),G⟩
 have n0:(op==0)=false:=Fm;have d2:(op==24)=false:=Fm;have n7:(op==7)=false:=Fm;have n8:(op==8)=false:=Fm;have n9:(op==9)=false:=Fm;have d3:(op==10)=false:=Fm;have i0:¬(op=0\/op=24\/op=7\/op=8\/op=9\/op=10):=j;clear j;by_cases j:op=1
 ·subst j;have A:Hid (R=[(2,0)]):=by unfold Hid;rw[<- Ba I];simp
  go_in;go_wp2_with fail;refine Qb (Bmy _) F ?_;intro v O l;have D:=l.size;have G:=l.alloc D (O7 2 0);go_wp2;go_ret;rw[Ba A];exact⟨some ⟨v.heap.size,0,none⟩,1,rfl,TyR.new1 v _ _,fun g o e=>(by simp at e;omega),G⟩
 have n1:(op==1)=false:=Fm;have i1:¬(op=1):=j;clear j;by_cases j:op=17
 ·subst j;have A:Hid (R=[(K,N)]):=by unfold Hid;rw[<- Ba I];simp
  go_in;go_wp2_with fail;refine Qb (Ba b5 _ F) F ?_;intro v O l;have D:=l.size;have G:=(l.alloc D (O7 K N)).alloc Fm (O7 K N);go_wp2;go_ret;rw[Ba A];exact⟨some ⟨v.heap.size+1,0,none⟩,1,rfl,by simpa using TyR.new1 (v.alloc (O7 K N)) K N,fun g o e=>(by simp at e;omega),G⟩
 have d4:(op==17)=false:=Fm;have c1:¬(op=17):=j;clear j;by_cases j:op=19
 ·subst j;have A:Hid (R=[(3,(n:Int))]):=by unfold Hid;rw[<- Ba I];simp
  go_in;go_wp2_with fail;refine Qb (N6 (n:Int) _) F ?_;intro v O l;have D:=l.size;have G:=l.alloc D (O7 3 (n:Int));go_wp2;go_ret;rw[Ba A];exact⟨some ⟨v.heap.size,0,none⟩,1,rfl,TyR.new1 v _ _,fun g o e=>(by simp at e;omega),G⟩
 have d5:(op==19)=false:=Fm;have c2:¬(op=19):=j;clear j;by_cases j:op=20\/op=21
 ·rcases j with rfl|rfl
  all_goals
   have t:=Ba c0 Fr;have J:=Ba b8 t;have c3:=Ba b9 f[n] (Bvh t);have A:Hid (R=Ei f[n].1.result):=by unfold Hid;rw[<- Ba I];rw[J];simp
   go_in;go_wp2_with fail;refine(Ba b6 t _ F).mono ?_;rintro e v ⟨q,rfl,hq,c4,O⟩;have l:=QB F O;have D:=l.size;have a7:=hq.r1;have a8:=hq.r2;obtain⟨q1,q2,q3,q4,q5,q6,q7,q8,q9,qa,qb,qc,qd,qe,qf,qg,qh,qi⟩:=q;simp only at a7 a8;have b3:Ei f[n].1.result=Ei (q6,q7):=by rw[a7,a8]
   have c5:=Bc b3;clear hq c4 a7 a8 b3 J c3;go_wp2_with fail;refine(Ba b7 ⟨q1,q2,q3,q4,q5,q6,q7,q8,q9,qa,qb,qc,qd,qe,qf,qg,qh,qi⟩ _).mono ?_;rintro e w2 ⟨a,c,rfl,ht,c6,c7⟩;have c8:=(l.alloc D (O18 q1 q2 q3 q4 q5 q6 q7 q8 q9 qa qb qc qd qe qf qg qh qi)).trans (c7.mono Fm);go_wp2;go_ret;rw[Ba A,Ba c5];exact⟨a,c,rfl,ht,fun g o e=>(by have:=c6 g o e;simp at this;omega),c8⟩
 have d6:(op==20)=false:=Fm;have d7:(op==21)=false:=Fm;have c9:¬(op=20\/op=21):=j;clear j;have A:Hid (R=[]):=by unfold Hid;rw[<- Ba I];simp[i0,i1,c1,c2,c9]
 go_in;go_wp2;go_ret;rw[Ba A];exact⟨none,0,rfl,TyR.nil _,fun g o e=>(by cases e),F⟩
def Bp0(b:PBd)(bb k:Nat)(lm:List (Rd.Mth×Eh))(B:List (Value×List (Int×Int)))(c:BnC)(v:FrV)(q:Ea)(n:Nat)(l w:TW)(D:Ru b l bb lm B)(hw:Bl l w)(h:Eo w l.heap.size k c v q):Calls prog 269 #[b.val,.q k 0,.i (n:Int)] w fun e j=>e=.r (.tuple #[])/\∃v',Eo j l.heap.size k c v' (Au c.T (Dq b.T (B.map Prod.snd) (n:Int)) (Ld b.L (n:Int)) (n:Int) q)/\Bn k w v j v':=by
 have b6:=fun j (hb:Bl l j)=>Wc b.T b.tg b.tc B bb b.ya b.yc (n:Int) j D.y14 D.tl D.yf (D.below hb).tr (by have:=(D.below hb).fs;rw[D.yl]at this;exact this);have a6:=fun c7 j (hb:Bl l j)=>Bkn b bb lm B c7 (n:Int) j (D.below hb);have d3:(Dq b.T (B.map Prod.snd) (n:Int)).length<=14000:=by
  unfold Dq;have:=Oh b.T (B.map Prod.snd) (n:Int) (fun p hp=>by obtain⟨x,hx,rfl⟩:=List.mem_map.1 hp;exact D.yf x hx) (B.map Prod.snd).length;have d8:=D.y14;rw[Bvr]at this ⊢;omega
 have c8:=D.ml;have c9:=D.yl;obtain⟨a7,a8,a9,b0,d9,b1,tg,tc,ya,yn,yc,cl,nm,pa,pl,pc,r1,r2,lo,st,ca,cn,cc,ha,hl,hc,ma,ml,mc,la,lc,T,L⟩:=b;simp only at c8 c9;subst c8 c9;simp only[PBd.val]at b6 a6 d3 ⊢;unfold Au;generalize Dq T (B.map Prod.snd) (n:Int)=A at *;have O:∀c7 j,Bl l j->_:=a6;generalize d4:Ld L (n:Int)=d6 at *;have b7:=Bc b6;have b2:=Bc a6;clear b6 a6 O D d4;have K:=h.alloc (O25 a7 a8 a9 b0 lm.length b1 (.p tg) T.length tc ya B.length yc cl nm pa pl pc r1 r2 lo st ca cn cc ha hl hc ma ml mc la L.length lc);have GA:=(Bn.refl k w v).alloc (O25 a7 a8 a9 b0 lm.length b1 (.p tg) T.length tc ya B.length yc cl nm pa pl pc r1 r2 lo st ca cn cc ha hl hc ma ml mc la L.length lc);have UA:=Bf w (O25 a7 a8 a9 b0 lm.length b1 (.p tg) T.length tc ya B.length yc cl nm pa pl pc r1 r2 lo st ca cn cc ha hl hc ma ml mc la L.length lc);have N:v.free k w.heap.size:=h.new (Wf _);have a4:=hw.alloc (by exact hw.size) (O25 a7 a8 a9 b0 lm.length b1 (.p tg) T.length tc ya B.length yc cl nm pa pl pc r1 r2 lo st ca cn cc ha hl hc ma ml mc la L.length lc);have f0:=h.k_lt;generalize d0:Bi (Gu c.T A q)=d7;have b8:=Bc d0;obtain⟨⟨t1,m⟩,q2⟩:=d7;simp only;clear d0;unfold Tm;by_cases b3:t1=4
 ·subst b3;rw[Pf (show ¬((4:Int),m).1≠4 by simp)];have O:=fun j hb=>Ba b2 m j hb;cases b4:d6 m with
  | false =>
   rw[Sp rfl];rw[b4]at O;have HI:=Bc O;clear O b4 b2;go_in;go_wp2_with fail;refine(Ba b7 _ a4).mono ?_;rintro e Q ⟨V,Y,rfl,F,s⟩;have Z:=K.below s;have G1:=GA.trans (Bn.of_below v s);have G:=stay s UA;have a0:TyF Q k v V A.length Y A:=⟨Sc F rfl,fun g o e=>(by subst e;exact K.new (F.lt g rfl).1)⟩;have l1:=Pk G;clear s F;go_wp2_with fail;refine Qm (T6 Q l.heap.size k c v q V A.length Y A Z a0 Bd) ?_;rintro w2 ⟨v2,h2,t⟩;have I:=t.stay N G;have J:=t.free N l1;have l2:=Pk I;go_wp2_with fail;refine(N3 w2 l.heap.size k c v2 _ h2).mono ?_;rw[Ba b8];rintro e w3 ⟨rfl,v3,f,z⟩;simp only at f;have U3:=z.stay J I;have d1:=z.free J l2;have a1:=(G1.trans t).trans z;have a2:=hw.trans (a1.low h);have b5:=a2.size;have b9:=f.new (Wf _);have c5:=Bb f.blk 5;have f5:=Bj f.blk 5;have d2:=f.k_lt;simp at c5;clear G I N J G1 t z Z h2 K GA UA a4 a0 l1 l2;obtain⟨m0,m1,m2,m3,m4,m5,m6,m7,m8,m9,c0,c1,c2,c3,c4⟩:=Wg U3;simp at m0 m1 m2 m3 m4 m5 m6 m7 m8 m9 c0 c1 c2 c3 c4;have lU:=Pk U3;have c6:=a2.alloc b5 (O7 4 m);go_wp2_with fail;refine Qm (Ba HI _ c6) ?_;intro w4 a3;have h4:=(f.alloc (O7 4 m)).below a3;have G4:=(a1.alloc (O7 4 m)).trans (Bn.of_below _ a3);have d5:=Bb h4.blk 5;have e5:=Bj h4.blk 5;have f1:=h4.k_lt;simp at d5;go_wp2;refine tb (.tuple #[]) (by simp[results,results269,go_sem]) ?_;exact⟨rfl,_,h4.brk,G4.brk⟩
  | true =>
   rw[Pf Fr];rw[b4]at O;have HI:=Bc O;clear O b4 b2;go_in;go_wp2_with fail;refine(Ba b7 _ a4).mono ?_;rintro e Q ⟨V,Y,rfl,F,s⟩;have Z:=K.below s;have G1:=GA.trans (Bn.of_below v s);have G:=stay s UA;have a0:TyF Q k v V A.length Y A:=⟨Sc F rfl,fun g o e=>(by subst e;exact K.new (F.lt g rfl).1)⟩;have l1:=Pk G;clear s F;go_wp2_with fail;refine Qm (T6 Q l.heap.size k c v q V A.length Y A Z a0 Bd) ?_;rintro w2 ⟨v2,h2,t⟩;have I:=t.stay N G;have J:=t.free N l1;have l2:=Pk I;go_wp2_with fail;refine(N3 w2 l.heap.size k c v2 _ h2).mono ?_;rw[Ba b8];rintro e w3 ⟨rfl,v3,f,z⟩;simp only at f;have U3:=z.stay J I;have d1:=z.free J l2;have a1:=(G1.trans t).trans z;have a2:=hw.trans (a1.low h);have b5:=a2.size;have b9:=f.new (Wf _);have c5:=Bb f.blk 5;have f5:=Bj f.blk 5;have d2:=f.k_lt;simp at c5;clear G I N J G1 t z Z h2 K GA UA a4 a0 l1 l2;obtain⟨m0,m1,m2,m3,m4,m5,m6,m7,m8,m9,c0,c1,c2,c3,c4⟩:=Wg U3;simp at m0 m1 m2 m3 m4 m5 m6 m7 m8 m9 c0 c1 c2 c3 c4;have lU:=Pk U3;have c6:=a2.alloc b5 (O7 4 m);have XA:=Bf w3 (O7 4 m);go_wp2_with fail;refine Qm (Ba HI _ c6) ?_;intro w4 a3;have h4:=(f.alloc (O7 4 m)).below a3;have G4:=(a1.alloc (O7 4 m)).trans (Bn.of_below _ a3);have X4:=stay a3 XA;have p0:w4.C w3.heap.size 0 (.i 4):=(Bb X4 0).trans rfl;have p1:w4.C w3.heap.size 1 (.i m):=(Bb X4 1).trans rfl;have lX:=Pk X4;clear a3;go_wp2
   go_region_held3 (fun j=>j.C w3.heap.size 0 (.i 4)/\j.C w3.heap.size 1 (.i m)) (first|exact⟨p0,p1⟩|exact⟨QC a5 lX p0,QC a5 lX p1⟩|exact⟨(Bb X6 0).trans rfl,(Bb X6 1).trans rfl⟩) (first|(go_at_call 165;refine(N6 (n:Int) _).mono ?_;rintro e w5 ⟨rfl,a5⟩)|(go_at_call 267;refine Qm (Bct w5 l.heap.size k c v3 q2 4 m 3 (n:Int) (h4.drew.below a5)) ?_;rintro w6 ⟨v6,h6,G6⟩;have X6:=G6.stay b9 (stay a5 (show w4.drew.heap[w3.heap.size]?=_ from X4))))
   go_wp2;go_end0;exact⟨rfl,v6,h6,(G4.drew.trans (Bn.of_below _ a5)).trans G6⟩
 rw[Sp (show (t1,m).1≠4 from b3)];have f2:(t1 != 4)=true:=by simp[b3]
 clear b3 b2;go_in;go_wp2_with fail;refine(Ba b7 _ a4).mono ?_;rintro e Q ⟨V,Y,rfl,F,s⟩;have Z:=K.below s;have G1:=GA.trans (Bn.of_below v s);have G:=stay s UA;have a0:TyF Q k v V A.length Y A:=⟨Sc F rfl,fun g o e=>(by subst e;exact K.new (F.lt g rfl).1)⟩;have l1:=Pk G;clear s F;go_wp2_with fail;refine Qm (T6 Q l.heap.size k c v q V A.length Y A Z a0 Bd) ?_;rintro w2 ⟨v2,h2,t⟩;have I:=t.stay N G;have J:=t.free N l1;have l2:=Pk I;go_wp2_with fail;refine(N3 w2 l.heap.size k c v2 _ h2).mono ?_;rw[Ba b8];rintro e w3 ⟨rfl,v3,f,z⟩;simp only at f;have U3:=z.stay J I;have d1:=z.free J l2;have a1:=(G1.trans t).trans z;have a2:=hw.trans (a1.low h);have b5:=a2.size;have b9:=f.new (Wf _);have c5:=Bb f.blk 5;have f5:=Bj f.blk 5;have d2:=f.k_lt;simp at c5;clear G I N J G1 t z Z h2 K GA UA a4 a0 l1 l2;go_wp2;refine tb (.tuple #[]) (by simp[results,results269,go_sem]) ?_;exact⟨rfl,_,f.brk.alloc _,a1.brk.alloc _⟩
def Bki(c:List (List (Int×Int)))(b:List Rd.Mth)(e:∀m∈b,m.params.length<=1000)(f:Int×Int)(op n:Int):(Ij c b f op n).length<=1001:=by
 have g:(b.getD n.toNat ⟨0,0,[],(0,0),0,0,[],[],[]⟩).params.length<=1000:=by
  rw[Th];rcases h:b[n.toNat]? with _|x
  ·simp
  simp;exact e x (Bwv h)
 unfold Ij Ei
 repeat' split
 all_goals first|(simp;done)|(simp only[Bvo];omega)|omega
def Eo.frame{c:BnC}{v:FrV}{b:Ea}(h:Eo w u k c v b):v.is ⟨b.lo,b.st⟩ w:=⟨TyR.of_tys h.lo,TyR.of_tys h.st,by have:=h.ll;simp only;omega,h.sl⟩
def Bba(b:Ea):(Bi b).2.st.length<=b.st.length:=by unfold Bi;split<;>simp
def Bej(c:Int)(t:Int×Int)(b:Ea):(Es c t b).st.length<=b.st.length+1:=by unfold Es;split<;>simp
def Bh5(b:List (List (Int×Int)))(c:List Rd.Mth)(op n:Int):(Hj b c op n).length<=1:=by
 unfold Hj Ei
 repeat' split
 all_goals simp
def Bh7(b:PBd)(bb:Nat)(G:List (Rd.Mth×Eh))(A:List (Value×List (Int×Int)))(pp op:Int)(n:Nat)(v:FrV)(x:Be)(w:TW)(hR:Ru b w bb G A)(hx:v.is x w)(hn:n<=100000)(g2:x.locals.length<=1000)(g3:x.stack.length<=1000) (b4:∀p∈G,p.1.params.length<=1000)(c5:op=20\/op=21->n<G.length):Calls prog 221 #[b.val,.agg #[.i pp,.i op,.i (n:Int)],v.val] w fun e Z=>∃u:FrV, e=.r (.tuple #[u.val,.bool (Nv b.T b.st (Ij (A.map Prod.snd) (G.map Prod.fst) (b.r1,b.r2) op (n:Int)) (Hj (A.map Prod.snd) (G.map Prod.fst) op (n:Int)) (Dq b.T (A.map Prod.snd) (n:Int)) (Ld b.L (n:Int)) pp op (n:Int) x).isSome])/\(∀y,Nv b.T b.st (Ij (A.map Prod.snd) (G.map Prod.fst) (b.r1,b.r2) op (n:Int)) (Hj (A.map Prod.snd) (G.map Prod.fst) op (n:Int)) (Dq b.T (A.map Prod.snd) (n:Int)) (Ld b.L (n:Int)) pp op (n:Int) x=some y->u.is y Z)/\Bl w Z:=by
 have c6:∀p∈G,∀g,p.2.params.ownBlock=some g->g<w.heap.size:=fun p hp g hg=>((hR.ms.2 p hp).1.lt g hg).2;have c7:=fun Z (hb:Bl w Z)=>Bkj b bb w.heap.size G A pp op n Z (hR.below hb) hn c6 b4 c5;have c8:=fun Z (hb:Bl w Z)=>Bh6 b bb w.heap.size G A pp op n Z (hR.below hb) hn c6 b4 c5;have c9:=fun k c v q Z (hb:Bl w Z) hq=>Bp0 b bb k G A c v q n w Z hR hb hq;have a8:=fun c Z (h:Bl w Z)=>Bhp c v x Z (hx.below h);have f0:=hR.ml;have f1:=hR.yl;have d0:=hR.tr;have f2:=hR.tl;generalize b5:Nv b.T b.st (Ij (A.map Prod.snd) (G.map Prod.fst) (b.r1,b.r2) op (n:Int)) (Hj (A.map Prod.snd) (G.map Prod.fst) op (n:Int)) (Dq b.T (A.map Prod.snd) (n:Int)) (Ld b.L (n:Int)) pp op (n:Int) x=PB;unfold Nv Zd at b5;have j3:(Ij (A.map Prod.snd) (G.map Prod.fst) (b.r1,b.r2) op (n:Int)).length<=1001:=Bki _ _ (fun m hm=>by obtain⟨p,hp,rfl⟩:=List.mem_map.1 hm;exact b4 p hp) _ _ _;have j4:(Hj (A.map Prod.snd) (G.map Prod.fst) op (n:Int)).length<=1:=Bh5 _ _ _ _;generalize Ij (A.map Prod.snd) (G.map Prod.fst) (b.r1,b.r2) op (n:Int)=tk at *;generalize Hj (A.map Prod.snd) (G.map Prod.fst) op (n:Int)=lv at *;generalize Dq b.T (A.map Prod.snd) (n:Int)=g4 at *;generalize Ld b.L (n:Int)=g5 at *;obtain⟨f3,f4,f5,f6,j5,f7,tg,tc,ya,yn,yc,cl,nm,pa,pl,pc,r1,r2,lo,F,ca,cn,cc,ha,hl,hc,ma,ml,mc,la,lc,T,L⟩:=b;obtain⟨xa,xn,xc,za,zn,zc⟩:=v;simp only at f0 f1 d0 f2 b5;subst f0 f1;simp only[PBd.val,FrV.val]at c7 c8 c9 a8 ⊢;have a8:=fun Z h=>a8 ⟨tg,tc,ya,A.length,yc,F,T⟩ Z h;simp only at a8;have g6:=Bc c7;have g7:=Bc c8;have g8:=Bc c9;have g9:=Bc a8;have a5:=Bc b5;clear c7 c8 c9 a8 c6 hR hx b4 c5 b5;have d1:=Mq w (O25 f3 f4 f5 f6 G.length f7 (.p tg) T.length tc ya A.length yc cl nm pa pl pc r1 r2 lo F ca cn cc ha hl hc ma ml mc la L.length lc) (O15 pp op (n:Int)) (O24 xa xn xc za zn zc) (O24 none 0 0 none 0 0);obtain⟨J,I0,X0,R0⟩:=J2 w (O25 f3 f4 f5 f6 G.length f7 (.p tg) T.length tc ya A.length yc cl nm pa pl pc r1 r2 lo F ca cn cc ha hl hc ma ml mc la L.length lc) (O15 pp op (n:Int)) (O24 xa xn xc za zn zc) (O24 none 0 0 none 0 0);have d2:=d1.size;go_in;go_wp2_with fail;refine(Ba g9 _ d1).mono ?_;rintro e w1 ⟨v1,rfl,d3,d4,f8,D⟩;obtain⟨K,N,vc,O,Q,V⟩:=v1;have d5:=d1.trans (D.mono d2);have f9:=d5.size;have lR:=Pk (stay D R0);have d6:∀j,(Value.slice K N vc).ownBlock=some j->w.heap.size+4<=j/\j<w1.heap.size:=fun j hj=>by have:=d3.lt j hj;simp at this;omega
 have d7:∀j,(Value.slice O Q V).ownBlock=some j->w.heap.size+4<=j/\j<w1.heap.size:=fun j hj=>by have:=d4.lt j hj;simp at this;omega
 have hA:Eo (w1.alloc (O23 (.p tg) T.length tc ya A.length yc K N vc O Q V F false)) w.heap.size w1.heap.size ⟨tg,tc,ya,A.length,yc,F,T⟩ ⟨K,N,vc,O,Q,V⟩ ⟨x.locals,x.stack,false⟩:=⟨Bf w1 _,Ti (Dp.alloc' d3 _) d2,Ti (Dp.alloc' d4 _) d2,⟨fun e=>by have:=(d6 _ e).2;omega,fun e=>by have:=(d7 _ e).2;omega⟩,f8,f9,(d0.below d5).below (QN _),d0.1,f2,g2,Ls⟩;have b6:=d5.alloc f9 (O23 (.p tg) T.length tc ya A.length yc K N vc O Q V F false);have fr:∀j,j<w.heap.size+4->FrV.free ⟨K,N,vc,O,Q,V⟩ w1.heap.size j:=fun j hj=>⟨Bd,fun e=>by have:=(d6 _ e).1;omega,fun e=>by have:=(d7 _ e).1;omega⟩;have t:=fr w.heap.size Bd;have z:=fr (w.heap.size+1) Bd;have l:=fr (w.heap.size+1+1+1) Bd;have U1:=Bk (stay D J) (O23 (.p tg) T.length tc ya A.length yc K N vc O Q V F false);have I1:=Bk (stay D I0) (O23 (.p tg) T.length tc ya A.length yc K N vc O Q V F false);have R1:=Bk (stay D R0) (O23 (.p tg) T.length tc ya A.length yc K N vc O Q V F false);have G1:=Bn.refl w1.heap.size (w1.alloc (O23 (.p tg) T.length tc ya A.length yc K N vc O Q V F false)) ⟨K,N,vc,O,Q,V⟩;have i0:=Bb (stay D I0) 0;have i1:=Bb (stay D I0) 1;have i2:=Bb (stay D I0) 2;have j6:=Pk (stay D I0);simp at i0 i1 i2;have m0:=Bb (stay D J) 0;have m1:=Bb (stay D J) 1;have m2:=Bb (stay D J) 2;have m3:=Bb (stay D J) 3;have m4:=Bb (stay D J) 4;have m5:=Bb (stay D J) 5;have m6:=Bb (stay D J) 6;have m7:=Bb (stay D J) 7;have m8:=Bb (stay D J) 8;have m9:=Bb (stay D J) 9;have b7:=Bb (stay D J) 10;have b8:=Bb (stay D J) 11;have b9:=Bb (stay D J) 12;have c0:=Bb (stay D J) 13;have c1:=Bb (stay D J) 14;have j7:=Pk (stay D J);simp at m0 m1 m2 m3 m4 m5 m6 m7 m8 m9 b7 b8 b9 c0 c1;clear d6 d7 fr d3 d4 f8 D;by_cases B:op=2
 case' pos =>
  subst B;have a3:PB=Fo (X8 F (n:Int) ⟨x.locals,x.stack,false⟩):=by rw[<- Ba a5];simp
  go_wp2_with fail;refine(Bqn (w1.alloc (O23 (.p tg) T.length tc ya A.length yc K N vc O Q V F false)) _ _ _ _ _ n hA (by first|omega|(simp only;omega))).mono ?_
  rintro e w2 ⟨rfl,v2,Y,f⟩;have G2:=G1.trans f;have U2:=f.stay t U1;have I2:=f.stay z I1;have R2:=f.stay l R1;replace t:=f.free t (Pk U1);replace z:=f.free z (Pk I1);replace l:=f.free l (Pk R1);have hE:=Y;have GE:=G2;have RE:=R2
 rotate_left
 have n2:(op==2)=false:=Fm;have o2:=B;clear B;by_cases B:op=3
 case' pos =>
  subst B;have a3:PB=Fo (Wn (n:Int) ⟨x.locals,x.stack,false⟩):=by rw[<- Ba a5];simp
  go_wp2_with fail;refine Qm (Bmk (w1.alloc (O23 (.p tg) T.length tc ya A.length yc K N vc O Q V F false)) _ _ _ _ _ n hA hn) ?_;rintro w2 ⟨v2,Y,f⟩;have G2:=G1.trans f;have U2:=f.stay t U1;have I2:=f.stay z I1;have R2:=f.stay l R1;replace t:=f.free t (Pk U1);replace z:=f.free z (Pk I1);replace l:=f.free l (Pk R1);have hE:=Y;have GE:=G2;have RE:=R2
 rotate_left
 have n3:(op==3)=false:=Fm;have o3:=B;clear B;by_cases B:op=4
 case' pos =>
  subst B;have a3:PB=Fo ((Bi ⟨x.locals,x.stack,false⟩).2):=by rw[<- Ba a5];simp
  go_wp2_with fail;refine Qm (N3 (w1.alloc (O23 (.p tg) T.length tc ya A.length yc K N vc O Q V F false)) _ _ _ _ _ hA) ?_;rintro w2 ⟨v2,Y,f⟩;have G2:=G1.trans f;have U2:=f.stay t U1;have I2:=f.stay z I1;have R2:=f.stay l R1;replace t:=f.free t (Pk U1);replace z:=f.free z (Pk I1);replace l:=f.free l (Pk R1);have hE:=Y;have GE:=G2;have RE:=R2
 rotate_left
 have n4:(op==4)=false:=Fm;have o4:=B;clear B;by_cases B:op=5
 case' pos =>
  subst B;have a3:PB=Fo (Es F (Bi ⟨x.locals,x.stack,false⟩).1 (Es F (Bi ⟨x.locals,x.stack,false⟩).1 (Bi ⟨x.locals,x.stack,false⟩).2)):=by rw[<- Ba a5];simp[Bht]
  go_wp2_with fail;refine Qm (N3 (w1.alloc (O23 (.p tg) T.length tc ya A.length yc K N vc O Q V F false)) _ _ _ _ _ hA) ?_;rintro w2 ⟨v2,Y,f⟩;have G2:=G1.trans f;have U2:=f.stay t U1;have I2:=f.stay z I1;have R2:=f.stay l R1;replace t:=f.free t (Pk U1);replace z:=f.free z (Pk I1);replace l:=f.free l (Pk R1);have d8:=Bba ⟨x.locals,x.stack,false⟩;simp only at d8;have a1:=Y.new (Wf _);have A0:=Bf w2 (O7 (Bi ⟨x.locals,x.stack,false⟩).1.1 (Bi ⟨x.locals,x.stack,false⟩).1.2);have h3:=Y.alloc (O7 (Bi ⟨x.locals,x.stack,false⟩).1.1 (Bi ⟨x.locals,x.stack,false⟩).1.2);have G3:=G2.alloc (O7 (Bi ⟨x.locals,x.stack,false⟩).1.1 (Bi ⟨x.locals,x.stack,false⟩).1.2);have U3:=Bk U2 (O7 (Bi ⟨x.locals,x.stack,false⟩).1.1 (Bi ⟨x.locals,x.stack,false⟩).1.2);have I3:=Bk I2 (O7 (Bi ⟨x.locals,x.stack,false⟩).1.1 (Bi ⟨x.locals,x.stack,false⟩).1.2);have R3:=Bk R2 (O7 (Bi ⟨x.locals,x.stack,false⟩).1.1 (Bi ⟨x.locals,x.stack,false⟩).1.2);go_wp2_with fail;refine Qm (Pc _ _ _ _ _ _ (Bi ⟨x.locals,x.stack,false⟩).1.1 (Bi ⟨x.locals,x.stack,false⟩).1.2 h3 Bd) ?_;rintro w4 ⟨v4,h4,C⟩;have G4:=G3.trans C;have U4:=C.stay t U3;have I4:=C.stay z I3;have R4:=C.stay l R3;replace t:=C.free t (Pk U3);replace z:=C.free z (Pk I3);replace l:=C.free l (Pk R3);have A4:=C.stay a1 A0;replace a1:=C.free a1 (Pk A0);obtain⟨y0,y1⟩:=cl2 A4;have ly:=Pk A4;simp at y0 y1;have h0:=Bej F ((Bi ⟨x.locals,x.stack,false⟩).1.1,(Bi ⟨x.locals,x.stack,false⟩).1.2) (Bi ⟨x.locals,x.stack,false⟩).2;go_wp2_with fail;refine(Pc _ _ _ _ _ _ (Bi ⟨x.locals,x.stack,false⟩).1.1 (Bi ⟨x.locals,x.stack,false⟩).1.2 h4 (by first|omega|(simp only;omega))).mono ?_
  rintro e w5 ⟨rfl,v5,h5,a0⟩;have G5:=G4.trans a0;have U5:=a0.stay t U4;have I5:=a0.stay z I4;have R5:=a0.stay l R4;replace t:=a0.free t (Pk U4);replace z:=a0.free z (Pk I4);replace l:=a0.free l (Pk R4);have hE:=h5;have GE:=G5;have RE:=R5
 rotate_left
 have n5:(op==5)=false:=Fm;have o5:=B;clear B;by_cases B:op=6
 case' pos =>
  subst B;have a3:PB=Fo (Es F (Bi (Bi ⟨x.locals,x.stack,false⟩).2).1 (Es F (Bi ⟨x.locals,x.stack,false⟩).1 (Bi (Bi ⟨x.locals,x.stack,false⟩).2).2)):=by rw[<- Ba a5];simp[Bdm]
  go_wp2_with fail;refine Qm (N3 (w1.alloc (O23 (.p tg) T.length tc ya A.length yc K N vc O Q V F false)) _ _ _ _ _ hA) ?_;rintro w2 ⟨v2,Y,f⟩;have G2:=G1.trans f;have U2:=f.stay t U1;have I2:=f.stay z I1;have R2:=f.stay l R1;replace t:=f.free t (Pk U1);replace z:=f.free z (Pk I1);replace l:=f.free l (Pk R1);have d8:=Bba ⟨x.locals,x.stack,false⟩;simp only at d8;have a1:=Y.new (Wf _);have A0:=Bf w2 (O7 (Bi ⟨x.locals,x.stack,false⟩).1.1 (Bi ⟨x.locals,x.stack,false⟩).1.2);have h3:=Y.alloc (O7 (Bi ⟨x.locals,x.stack,false⟩).1.1 (Bi ⟨x.locals,x.stack,false⟩).1.2);have G3:=G2.alloc (O7 (Bi ⟨x.locals,x.stack,false⟩).1.1 (Bi ⟨x.locals,x.stack,false⟩).1.2);have U3:=Bk U2 (O7 (Bi ⟨x.locals,x.stack,false⟩).1.1 (Bi ⟨x.locals,x.stack,false⟩).1.2);have I3:=Bk I2 (O7 (Bi ⟨x.locals,x.stack,false⟩).1.1 (Bi ⟨x.locals,x.stack,false⟩).1.2);have R3:=Bk R2 (O7 (Bi ⟨x.locals,x.stack,false⟩).1.1 (Bi ⟨x.locals,x.stack,false⟩).1.2);go_wp2_with fail;refine Qm (N3 _ _ _ _ _ _ h3) ?_;rintro w4 ⟨v4,h4,C⟩;have G4:=G3.trans C;have U4:=C.stay t U3;have I4:=C.stay z I3;have R4:=C.stay l R3;replace t:=C.free t (Pk U3);replace z:=C.free z (Pk I3);replace l:=C.free l (Pk R3);have A4:=C.stay a1 A0;replace a1:=C.free a1 (Pk A0);have h0:=Bba (Bi ⟨x.locals,x.stack,false⟩).2;have d9:=h4.new (Wf _);have C0:=Bf w4 (O7 (Bi (Bi ⟨x.locals,x.stack,false⟩).2).1.1 (Bi (Bi ⟨x.locals,x.stack,false⟩).2).1.2);have h5:=h4.alloc (O7 (Bi (Bi ⟨x.locals,x.stack,false⟩).2).1.1 (Bi (Bi ⟨x.locals,x.stack,false⟩).2).1.2);have G5:=G4.alloc (O7 (Bi (Bi ⟨x.locals,x.stack,false⟩).2).1.1 (Bi (Bi ⟨x.locals,x.stack,false⟩).2).1.2);have U5:=Bk U4 (O7 (Bi (Bi ⟨x.locals,x.stack,false⟩).2).1.1 (Bi (Bi ⟨x.locals,x.stack,false⟩).2).1.2);have I5:=Bk I4 (O7 (Bi (Bi ⟨x.locals,x.stack,false⟩).2).1.1 (Bi (Bi ⟨x.locals,x.stack,false⟩).2).1.2);have R5:=Bk R4 (O7 (Bi (Bi ⟨x.locals,x.stack,false⟩).2).1.1 (Bi (Bi ⟨x.locals,x.stack,false⟩).2).1.2);have A9:=Bk A4 (O7 (Bi (Bi ⟨x.locals,x.stack,false⟩).2).1.1 (Bi (Bi ⟨x.locals,x.stack,false⟩).2).1.2);obtain⟨y0,y1⟩:=cl2 A9;have ly:=Pk A9;simp at y0 y1;go_wp2_with fail;refine Qm (Pc _ _ _ _ _ _ (Bi ⟨x.locals,x.stack,false⟩).1.1 (Bi ⟨x.locals,x.stack,false⟩).1.2 h5 Bd) ?_;rintro w6 ⟨v6,h6,I⟩;have G6:=G5.trans I;have U6:=I.stay t U5;have I6:=I.stay z I5;have R6:=I.stay l R5;replace t:=I.free t (Pk U5);replace z:=I.free z (Pk I5);replace l:=I.free l (Pk R5);have A6:=I.stay a1 A9;replace a1:=I.free a1 (Pk A9);have C6:=I.stay d9 C0;replace d9:=I.free d9 (Pk C0);clear y0 y1 ly;obtain⟨y0,y1⟩:=cl2 C6;have ly:=Pk C6;simp at y0 y1;have j8:=Bej F ((Bi ⟨x.locals,x.stack,false⟩).1.1,(Bi ⟨x.locals,x.stack,false⟩).1.2) (Bi (Bi ⟨x.locals,x.stack,false⟩).2).2;go_wp2_with fail;refine(Pc _ _ _ _ _ _ (Bi (Bi ⟨x.locals,x.stack,false⟩).2).1.1 (Bi (Bi ⟨x.locals,x.stack,false⟩).2).1.2 h6 (by first|omega|(simp only;omega))).mono ?_
  rintro e w7 ⟨rfl,v7,h7,a6⟩;have G7:=G6.trans a6;have U7:=a6.stay t U6;have I7:=a6.stay z I6;have R7:=a6.stay l R6;replace t:=a6.free t (Pk U6);replace z:=a6.free z (Pk I6);replace l:=a6.free l (Pk R6);have hE:=h7;have GE:=G7;have RE:=R7
 rotate_left
 have n6:(op==6)=false:=Fm;have o6:=B;clear B;by_cases B:op=15
 case' pos =>
  subst B;have a3:PB=Fo (Es F (4,pp) (Mt (4,pp) (0,0) ⟨x.locals,x.stack,false⟩)):=by rw[<- Ba a5];simp
  go_wp2_with fail;refine Qm (Bge pp _) ?_;intro w2 a9;have Y:=hA.below a9;have G2:=G1.trans (Bn.of_below _ a9);have U2:=stay a9 U1;have I2:=stay a9 I1;have R2:=stay a9 R1;go_wp2_with fail;refine Qm (Yr _) ?_;intro w3 b0;have h3:=Y.below b0;have G3:=G2.trans (Bn.of_below _ b0);have U3:=stay b0 U2;have I3:=stay b0 I2;have R3:=stay b0 R2;go_wp2_with fail;refine Qm (Bct _ _ _ _ _ _ 4 pp 0 0 h3) ?_;rintro w4 ⟨v4,h4,C⟩;have G4:=G3.trans C;have U4:=C.stay t U3;have I4:=C.stay z I3;have R4:=C.stay l R3;replace t:=C.free t (Pk U3);replace z:=C.free z (Pk I3);replace l:=C.free l (Pk R3);obtain⟨j0,j1,j2⟩:=cl3 I4;have lj:=Pk I4;simp at j0 j1 j2;go_wp2_with fail;refine Qm (Bge pp _) ?_;intro w5 b1;have h5:=h4.below b1;have G5:=G4.trans (Bn.of_below _ b1);have U5:=stay b1 U4;have I5:=stay b1 I4;have R5:=stay b1 R4;go_wp2_with fail;refine Qm (Pc _ _ _ _ _ _ 4 pp h5 (by simp[Mt,Kb];omega)) ?_;rintro w6 ⟨v6,h6,I⟩;have G6:=G5.trans I;have U6:=I.stay t U5;have I6:=I.stay z I5;have R6:=I.stay l R5;replace t:=I.free t (Pk U5);replace z:=I.free z (Pk I5);replace l:=I.free l (Pk R5);have hE:=h6;have GE:=G6;have RE:=R6
 rotate_left
 have j9:(op==15)=false:=Fm;have h1:=B;clear B;by_cases B:op=16
 case' pos =>
  subst B;have a3:PB=Fo (Au T g4 g5 (n:Int) ⟨x.locals,x.stack,false⟩):=by rw[<- Ba a5];simp
  go_wp2_with fail;refine Qm (Ba g8 _ _ _ _ (w1.alloc (O23 (.p tg) T.length tc ya A.length yc K N vc O Q V F false)) b6 hA) ?_;rintro w2 ⟨v2,Y,f⟩;have G2:=G1.trans f;have U2:=f.stay t U1;have I2:=f.stay z I1;have R2:=f.stay l R1;replace t:=f.free t (Pk U1);replace z:=f.free z (Pk I1);replace l:=f.free l (Pk R1);have hE:=Y;have GE:=G2;have RE:=R2
 rotate_left
 have k0:(op==16)=false:=Fm;have h8:=B;clear B
 case' neg =>
  have a3:PB=Fo (Hf F lv (Gu T tk ⟨x.locals,x.stack,false⟩)):=by rw[<- Ba a5];simp[o2,o3,o4,o5,o6,h1,h8]
  go_wp2_with fail;refine(Ba g6 _ b6).mono ?_;rintro e w2 ⟨a2,c2,rfl,h9,i3,b2⟩;have i4:TyF w2 w1.heap.size ⟨K,N,vc,O,Q,V⟩ a2 tk.length c2 tk:=⟨h9,fun g o e=>(i3 g o e).elim (fun hg=>hA.new hg) (fun hg=>hA.low hg)⟩;have Y:=hA.below b2;have G2:=G1.trans (Bn.of_below _ b2);have U2:=stay b2 U1;have I2:=stay b2 I1;have R2:=stay b2 R1;go_wp2_with fail;refine Qm (T6 _ _ _ _ _ _ a2 tk.length c2 tk Y i4 Bd) ?_;rintro w3 ⟨v3,h3,a7⟩;have G3:=G2.trans a7;have U3:=a7.stay t U2;have I3:=a7.stay z I2;have R3:=a7.stay l R2;replace t:=a7.free t (Pk U2);replace z:=a7.free z (Pk I2);replace l:=a7.free l (Pk R2);clear m0 m1 m2 m3 m4 m5 m6 m7 m8 m9 b7 b8 b9 c0 c1 i0 i1 i2;obtain⟨m0,m1,m2,m3,m4,m5,m6,m7,m8,m9,b7,b8,b9,c0,c1⟩:=Wg U3;have G:=Pk U3;simp at m0 m1 m2 m3 m4 m5 m6 m7 m8 m9 b7 b8 b9 c0 c1;obtain⟨j0,j1,j2⟩:=cl3 I3;have lj:=Pk I3;simp at j0 j1 j2;have i5:=b6.trans (G3.low hA);go_wp2_with fail;refine(Ba g7 _ i5).mono ?_;rintro e w4 ⟨a4,c4,rfl,i6,i7,b3⟩;have i8:TyF w4 w1.heap.size v3 a4 lv.length c4 lv:=⟨i6,fun g o e=>(i7 g o e).elim (fun hg=>h3.new hg) (fun hg=>h3.low hg)⟩;have h4:=h3.below b3;have G4:=G3.trans (Bn.of_below _ b3);have U4:=stay b3 U3;have I4:=stay b3 I3;have R4:=stay b3 R3;have k1:(Gu T tk ⟨x.locals,x.stack,false⟩).st.length<=1000:=Bvv (Bby _ _ _ _) g3;go_wp2_with fail;refine(Bgx _ _ _ _ _ _ a4 lv.length c4 lv h4 i8 (by first|omega|(simp only;omega))).mono ?_
  rintro e w5 ⟨rfl,v5,h5,a0⟩;have G5:=G4.trans a0;have U5:=a0.stay t U4;have I5:=a0.stay z I4;have R5:=a0.stay l R4;replace t:=a0.free t (Pk U4);replace z:=a0.free z (Pk I4);replace l:=a0.free l (Pk R4);have hE:=h5;have GE:=G5;have RE:=R5
 all_goals
  go_wp2_with fail;refine(Blm _ _ _ _ _ _ hE).mono ?_;rintro e k2 ⟨u,rfl,hu,i9,g0⟩;obtain⟨ua,un,uc,da,dn,dc⟩:=u;have c3:=g0.stay l RE;obtain⟨z0,z1⟩:=cl2 c3;obtain⟨q0,q1⟩:=fr2 c3;have lr:=Pk c3;simp at z0 z1;have g1:=b6.trans ((GE.trans g0).low hA);have k3:=g1.size;simp only[FrV.val];go_wp2_with fail;refine tb (.tuple #[.agg #[.s ua un uc,.s da dn dc],.bool PB.isSome]) (by simp[results,results221,go_sem,z0,z1,lr,a3]) ?_;refine⟨⟨ua,un,uc,da,dn,dc⟩,rfl,fun y hy=>?_,(g1.setCell Fm _).setCell Fm _⟩;rw[a3]at hy;obtain⟨e1,rfl⟩:=hu y hy;rw[e1];exact i9.frame.set2 c3 _ _
variable {ya:Option Addr}{yn yc:Nat}
def Mu (T:TI)(a b:TP):Bool:=if a.length=b.length then Ee T a b else false
def Hx (T:TI)(x y:Be):Bool:=Mu T x.locals y.locals&&Mu T x.stack y.stack
def Bcy(T:TI)(m z:Nat)(a b:TP)(aa ab:TA)(an ac bn bc:Nat)(w:TW)(hl:T.length<=1000)(hT:Dl w m T)(ha:TyR w (.s aa an ac) a)(hb:TyR w (.s ab bn bc) b)(b3:a.length<=10000)(b4:b.length<=10000):Calls prog 218 #[.agg #[.s (.p m) T.length z,.s ya yn yc],.s aa an ac,.s ab bn bc] w fun e q=>e=.r (.bool (Mu T a b))/\Bl w q:=by
 obtain⟨e1,-,-⟩:=ha.cap;obtain⟨e2,-,-⟩:=hb.cap;subst e1 e2;unfold Mu;have I:Bl w (w.alloc (O2 (.p m) T.length z ya yn yc)):=QN _;have T0:=Bf w (O2 (.p m) T.length z ya yn yc);by_cases h:a.length=b.length
 ·rw[Sp h];generalize j:Ee T a b=r;have B:Hid (Ee T (a.drop 0) (b.drop 0)=r):=j;have a9:((a.length:Int) != (b.length:Int))=false:=by simp[h]
  have b0:=Bc h;clear j h;go_in;go_wp2
  go_loopw [16] (fun v wr=>∃k:Nat,k<=a.length/\v=.i (k:Int)/\Hid (Ee T (a.drop k) (b.drop k)=r)/\Bl w wr/\wr.heap[w.heap.size]?=some (O2 (.p m) T.length z ya yn yc))
   (fun v _=>a.length-(intOf v).toNat)
  case atStart=>exact⟨0,Bd,rfl,B,I,T0⟩
  case round=>
   clear B I T0;obtain⟨k,hk,rfl,B,D,F⟩:=hrel;have b1:=D.size;have h:=Ba b0;by_cases a0:k<a.length
   ·have a1:k<b.length:=Bd;obtain⟨g,o,rfl,hg,a2⟩:=(ha.below D).at Bd;obtain⟨g2,G,rfl,a3,a4⟩:=(hb.below D).at Bd;obtain⟨x0,x1⟩:=a2 k a0;obtain⟨J,K⟩:=a4 k a1;have a5:a.drop k=a[k]::a.drop (k+1):=Wr a0;have a6:b.drop k=b[k]::b.drop (k+1):=Wr a1;have j:=Ba B;rw[a5,a6,Ee]at j;generalize a[k]=s at *;generalize b[k]=t at *;obtain⟨c,f⟩:=s;obtain⟨L,N⟩:=t;simp only at x0 x1 J K j;have O:(wr.alloc (O7 c f)).C w.heap.size 0 (.s (.p m) T.length z):=(Bb (Bk F (O7 c f)) 0).trans rfl;have Q:(wr.alloc (O7 c f)).C w.heap.size 1 (.s ya yn yc):=(Bb (Bk F (O7 c f)) 1).trans rfl;have V:(wr.alloc (O7 c f)).C wr.heap.size 0 (.i c):=(Bb (Bf wr (O7 c f)) 0).trans rfl;have Y:(wr.alloc (O7 c f)).C wr.heap.size 1 (.i f):=(Bb (Bf wr (O7 c f)) 1).trans rfl;have Z:=(Bwg wr (O7 c f) ⟨g2,G+k*2,none⟩ a3).trans J;have z1:=(Bwg wr (O7 c f) ⟨g2,G+k*2+1,none⟩ a3).trans K;have lF:=Pk (Bk F (O7 c f));have lP:=Pk (Bf wr (O7 c f));have lG:g2<(wr.alloc (O7 c f)).heap.size:=Fm;have a7:=(D.alloc b1 (O7 c f)).drew;have hc:=Km (ya:=ya) (yn:=yn) (yc:=yc) T m z c f L N _ hl (hT.below a7);generalize Tr.fitsB T c f L N=A at *;have HC:=Bc hc;have kb:(k:Int)<(a.length:Int):=Bd;have b5:(k:Int)<(b.length:Int):=Bd;clear a2 a4 a5 a6 hc B h;go_wp2
    go_region_held3 (fun q=>q.C w.heap.size 0 (.s (.p m) T.length z)/\q.C w.heap.size 1 (.s ya yn yc)/\q.C wr.heap.size 0 (.i c)/\q.C wr.heap.size 1 (.i f)/\q.C g2 (G+k*2) (.i L)/\q.C g2 (G+k*2+1) (.i N))
     (first|exact⟨O,Q,V,Y,Z,z1⟩|exact⟨QC l lF O,QC l lF Q,QC l lP V,QC l lP Y,QC l lG Z,QC l lG z1⟩)
     (first|(go_at_call 118;refine(Ba HC).mono ?_;rintro e w7 ⟨rfl,l⟩))
    have a8:=QB a7 l;have b2:=stay l (show (wr.alloc (O7 c f)).drew.heap[w.heap.size]?=_ from Bk F (O7 c f));clear l x0 x1 J K Z z1 O Q V Y HC;cases A with
    | true =>
     have HG:Hid (Ee T (a.drop (k+1)) (b.drop (k+1))=r):=by unfold Hid;rw[<- j];simp
     clear j;go_wp2;go_roundw
     case rel=>exact⟨k+1,Bd,Lt,HG,a8,b2⟩
     case measure=>simp[intOf];omega
    | false =>
     have HE:Hid (r=false):=by unfold Hid;rw[<- j];simp
     clear j;go_wp2;go_ret;exact⟨by rw[Ba HE];rfl,a8⟩
   have HE:Hid (r=true):=by unfold Hid;rw[<- Ba B,Bvi (show b.length<=k by omega),Ee]
   have kb:¬(k:Int)<(a.length:Int):=Bd;clear B h;go_wp2;go_ret;exact⟨by rw[Ba HE];rfl,D⟩
 rw[Pf h];have a9:((a.length:Int) != (b.length:Int))=true:=Fm;clear h;go_in;go_wp2;go_ret;exact⟨rfl,I⟩
def Bd5(T:TI)(f g:Nat)(u v:FrV)(x y:Be)(w:TW)(t:T.length<=1000)(z:Dl w f T)(i:u.is x w)(j:v.is y w):Calls prog 167 #[u.val,.agg #[.s (.p f) T.length g,.s ya yn yc],v.val] w fun e b=>e=.r (.bool (Hx T x y))/\Bl w b:=by
 have m:=fun b (h:Bl w b)=>Bcy (ya:=ya) (yn:=yn) (yc:=yc) T f g x.locals y.locals u.la v.la u.ln u.lc v.ln v.lc b t (z.below h) (i.lo.below h) (j.lo.below h) (by have:=i.hl;omega) (by have:=j.hl;omega);have q:=fun b (h:Bl w b)=>Bcy (ya:=ya) (yn:=yn) (yc:=yc) T f g x.stack y.stack u.sa v.sa u.sn u.sc v.sn v.sc b t (z.below h) (i.st.below h) (j.st.below h) (by have:=i.hs;omega) (by have:=j.hs;omega);unfold Hx;generalize Mu T x.locals y.locals=P at *;generalize Mu T x.stack y.stack=Q at *;obtain⟨A,B,C,D,F,G⟩:=u;obtain⟨I,J,K,L,N,O⟩:=v;simp only[FrV.val]at m q ⊢;have V:=Bc m;have H2:=Bc q;clear m q i j;have l:=Is w (O24 A B C D F G) (O2 (.p f) T.length g ya yn yc) (O24 I J K L N O);obtain⟨A0,Y,B0⟩:=W8 w (O24 A B C D F G) (O2 (.p f) T.length g ya yn yc) (O24 I J K L N O);cases P with
 | false =>
  go_in;go_wp2_with fail;refine Qm (Ba V _ l) ?_;intro w1 c;go_wp2;go_ret;exact⟨rfl,QB l c⟩
 | true =>
  go_in;go_wp2_with fail;refine Qb (Ba V _ l) l ?_;intro w1 c Z;have a1:=Bb (stay c A0) 1;have t0:=Bb (stay c Y) 0;have t1:=Bb (stay c Y) 1;have b1:=Bb (stay c B0) 1;simp at a1 t0 t1 b1;clear c;go_wp2_with fail;refine Qm (Ba H2 _ Z) ?_;intro w2 a0;go_wp2;go_ret;exact⟨rfl,QB Z a0⟩
def Bkw(m:Int)(v:FrV)(w:TW):Calls prog 233 #[.agg #[.i m,.s v.la v.ln v.lc,.s v.sa v.sn v.sc]] w fun e b=>e=.returned v.val/\Bl w b:=by
 obtain⟨c,f,g,h,j,l⟩:=v;simp only[FrV.val];go_in;go_wp2;refine tb (.agg #[.s c f g,.s h j l]) (by simp[results,results233,go_sem]) ?_;exact⟨rfl,Bx _ _ _⟩
def Bcq(c:Int)(v:FrV)(x:Be)(w:TW)(D:v.is x w):Calls prog 261 #[v.val,.i c] w fun e m=>∃u:FrV,e=.returned u.val/\u.is ⟨x.locals,[(3,c)]⟩ m/\Bl w m:=by
 obtain⟨b,f,g,q,t,z⟩:=v;have F:=D.lo;have V:=D.hl;simp only[FrV.val]at F ⊢;clear D;have Y:=Bx w (O24 b f g q t z) (O24 none 0 0 none 0 0);have G:=Cb w (O24 b f g q t z) (O24 none 0 0 none 0 0);have I:=Bv w (O24 b f g q t z) (O24 none 0 0 none 0 0);have A:((w.alloc (O24 b f g q t z)).alloc (O24 none 0 0 none 0 0)).C w.heap.size 0 (.s b f g):=(Bb G 0).trans rfl;have B:=Pk G;have lR:=Pk I;go_in;go_wp2
 go_region_held3 (fun m=>m.C w.heap.size 0 (.s b f g))
  (first|exact A|exact QC j B A|exact QA (QL j B) (QC j B A)|exact(Bwg _ _ _ (by have:=j.size;simp at this ⊢;omega)).trans ((B0a _ _ _ _ (by (try simp)<;>omega)).trans ((B0a _ _ _ _ (by (try simp)<;>omega)).trans (QC j B A))))
  (first|(go_at_call 165;refine Qm (N6 c _) ?_;intro h j;have l:=stay j (show _=_ from I);have J:=Bb l 0;have K:=Bb l 1;have q0:=Bj l 0;have q1:=Bj l 1;have Z:=Pk l;simp at J K))
 have L:=Y.drew.trans (j.mono Fm);have a1:=L.size;have N:((h.setCell (.a (w.heap.size+1) 0) (.s b f g)).setCell (.a (w.heap.size+1) 1) (.s (.p h.heap.size) 1 1)).heap.size=h.heap.size:=by simp[World.setCell]
 have O:=TyR.new1 ((h.setCell (.a (w.heap.size+1) 0) (.s b f g)).setCell (.a (w.heap.size+1) 1) (.s (.p h.heap.size) 1 1)) 3 c;rw[N]at O;have Q:=((L.setCell (p:=.a (w.heap.size+1) 0) Fr (.s b f g)).setCell (p:=.a (w.heap.size+1) 1) Fr (.s (.p h.heap.size) 1 1)).alloc (by rw[N];exact a1) (O7 3 c);go_wp2_with fail;refine tb (.agg #[.s b f g,.s (.p h.heap.size) 1 1]) (by simp[results,results261,go_sem,J,K,Z]) ?_;exact⟨⟨b,f,g,some ⟨h.heap.size,0,none⟩,1,1⟩,rfl,⟨F.below Q,O,V,Fr⟩,Q⟩
def El (h:Rd.Hnd)(p:Int):Bool:=decide (h.frm<=p)&&decide (p<h.til)
def Y4(h:Rd.Hnd)(p:Int)(w:TW):Calls prog 260 #[.agg #[.i h.frm,.i h.til,.i h.target,.i h.cl],.i p] w fun e c=>e=.r (.bool (El h p))/\Bl w c:=by
 obtain⟨f,g,l,m⟩:=h;unfold El;by_cases j:f<=p
 ·by_cases b:p<g;·go_in;go_wp2;go_ret;exact⟨by simp[j,b],QN _⟩
  go_in;go_wp2;go_ret;exact⟨by simp[b],QN _⟩
 go_in;go_wp2;go_ret;exact⟨Fm,QN _⟩
def Baz(op:Int)(w:TW):Calls prog 222 #[.i op] w fun e b=>e=.r (.bool (Dx op))/\b=w:=by
 unfold Dx;by_cases h:op=11\/op=12\/op=13\/op=14
 ·rw[Bxp h];rcases h with rfl|rfl|rfl|rfl
  all_goals
   go_in;go_wp2;go_ret;exact⟨rfl,rfl⟩
 rw[Bwx h];have c:(op==11)=false:=Fm;have f:(op==12)=false:=Fm;have g:(op==13)=false:=Fm;have j:(op==14)=false:=Fm;clear h;go_in;go_wp2;go_ret;exact⟨rfl,rfl⟩
def Yw(op:Int)(w:TW):Calls prog 187 #[.i op] w fun e b=>e=.r (.bool (Dz op))/\b=w:=by
 unfold Dz;by_cases h:op=11\/op=22\/op=23
 ·rw[Bwx (fun g=>g h)];rcases h with rfl|rfl|rfl
  all_goals
   go_in;go_wp2;go_ret;exact⟨rfl,rfl⟩
 rw[Bxp h];have c:(op==11)=false:=Fm;have f:(op==22)=false:=Fm;have j:(op==23)=false:=Fm;clear h;go_in;go_wp2;go_ret;exact⟨rfl,rfl⟩
def Bb5(m:PM)(c:TP)(f:Nat)(w:TW)(c7:m.lo=(f:Int))(d6:f<=1000)(b1:TyR w (.s m.pa m.pl m.pc) c)(d7:c.length<=1000):Calls prog 110 #[m.val] w fun e w'=>∃v:FrV,e=.returned v.val/\v.is (Pp m.cl c f) w'/\Bl w w':=by
 obtain⟨i0,hi,b2,b3,b4⟩:=Bv4 Tryz.infoType;obtain⟨p,nm,I,J,K,r1,r2,lo,st,ca,cn,cc,ha,hl,hc,ma,ml,mc⟩:=m;simp only[PM.val]at c7 b1 ⊢;subst c7;have c8:=fun w=>N6 p w;have d2:=Bc c8;clear c8;have a0:=Bx w (O18 p nm I J K r1 r2 (f:Int) st ca cn cc ha hl hc ma ml mc) (O24 none 0 0 none 0 0);have C0:=Cb w (O18 p nm I J K r1 r2 (f:Int) st ca cn cc ha hl hc ma ml mc) (O24 none 0 0 none 0 0);have D0:=Bv w (O18 p nm I J K r1 r2 (f:Int) st ca cn cc ha hl hc ma ml mc) (O24 none 0 0 none 0 0);unfold Pp;generalize hO:Kv p c=O;unfold Kv at hO
 -- what follows the head, for either head
 by_cases h1:p=255
 ·subst h1;rw[Sp rfl,Bx4]at hO;subst hO;go_in;go_wp2_with (at_builtin;refine Pv rfl _ _ rfl (w.heap.size+1+1) _ [] c I J K rfl (Bvl _ _ _ _) rfl (b1.below a0) Fm Fr ?_)
  intro v' w1 a1 C;have L:=a0.grown C Fm (fun j D=>by simp[Value.ownBlock]at D);have C1:=(C.block _ (Pk C0) (by simp[Value.ownBlock])).trans C0;have D1:=(C.block _ (Pk D0) (by simp[Value.ownBlock])).trans D0;clear C C0 D0 a0;have b5:=L.size;have a2:w1.ownsRow (w.heap.size+1+1) 31 2 v' (c++List.replicate 0 ((0:Int),(0:Int))).length (Bu (c++List.replicate 0 ((0:Int),(0:Int)))):=by simpa using a1
  go_wp2
  go_loopw [3] (fun v wr=>∃q:Nat,q<=f-c.length/\wr.ownsRow (w.heap.size+1+1) 31 2 v (c.length+q) (Bu (c++List.replicate q ((0:Int),(0:Int))))/\Bl w wr/\wr.heap[w.heap.size]?=some (O18 255 nm I J K r1 r2 (f:Int) st ca cn cc ha hl hc ma ml mc)/\wr.heap[w.heap.size+1]?=some (O24 none 0 0 none 0 0))
   (fun v _=>f-lenOf v)
  case atStart=>exact⟨0,Bd,by simpa using a2,L,C1,D1⟩
  case round=>
   clear a1 a2 L C1 D1 b5;obtain⟨q,hq,h,z,t,l⟩:=hrel;have N:=z.size;have lC:=Pk t;have lD:=Pk l;obtain⟨Q,V,rfl⟩:=Bg h;have x5:=Bb t 5;simp at x5;by_cases d3:c.length+q<f
   ·have kb:((c.length+q:Nat):Int)<(f:Int):=Bd;have HD:Hid (c++List.replicate (q+1) ((0:Int),(0:Int))=c++List.replicate q ((0:Int),(0:Int))++[((0:Int),(0:Int))]):=by unfold Hid;rw[Bzd,Bwe]
    go_wp2_with fail;refine Qm (Yr _) ?_;intro wt A;replace h:=Cx h (Kp.of_below (e:=none) A) Ck;replace z:=z.trans (A.mono N);replace t:=stay A t;replace l:=stay A l;replace N:=z.size;replace lC:=Pk t;replace lD:=Pk l;clear A x5;go_wp2_with (at_builtin;refine Bvw _ rfl _ _ 105 rfl (w.heap.size+1+1) 31 i0 _ 2 16 Bwq hi b2 b3 b4 rfl Ck _ _ _ rfl (h.alloc _) ⟨wt.heap.size,0,none⟩ 1 1 [.i 0,.i 0] rfl rfl ?c1 ?c2 ?c3 ?c4 ?c5 ?_)
    case c1=>exact Dv _ _ _ _ rfl
    case c2=>intro u G;simp at G;subst G;rfl
    case c3=>unfold maxLen;omega
    case c4=>omega
    case c5=>simp;omega
    intro v2 w2 Y F _;have b6:=(z.alloc N (O7 0 0)).grown F Fm (fun j D=>by have:=(h.lt j D).1;omega);have C2:=(F.block _ (Pk (Bk t (O7 0 0))) (fun B=>by have:=(h.lt _ B.symm).1;omega)).trans (Bk t (O7 0 0));have D2:=(F.block _ (Pk (Bk l (O7 0 0))) (fun B=>by have:=(h.lt _ B.symm).1;omega)).trans (Bk l (O7 0 0));obtain⟨b7,b8,rfl⟩:=Bg Y;have Z:w2.ownsRow (w.heap.size+1+1) 31 2 (.s b7 (c.length+q+1) b8) (c.length+(q+1)) (Bu (c++List.replicate (q+1) ((0:Int),(0:Int)))):=by rw[Ba HD,Ml];exact Y
    clear F h Y z t l;go_wp2;go_roundw
    case rel=>exact⟨q+1,Bd,Z,b6,C2,D2⟩
    case measure=>simp[lenOf];omega
   have kb:¬((c.length+q:Nat):Int)<(f:Int):=Bd;have eq:f-c.length=q:=Bd;obtain⟨z0,z1⟩:=cl2 l;obtain⟨q0,q1⟩:=fr2 l;simp at z0 z1;have b9:=(Kp.set_lo (e:=none) (b:=w.heap.size+1+1) (i:=0) (g:=w.heap.size+1) (w:=wr) Bd (.s Q (c.length+q) V)).trans (Kp.set_lo (i:=1) (g:=w.heap.size+1) Bd (.s none 0 0));have Z:=Cx h b9 Ck;have a3:=Bc eq;clear eq;go_wp2_with fail;refine tb (.agg #[.s Q (c.length+q) V,.s none 0 0]) (by simp[results,results110,go_sem,z0,z1]) ?_;refine⟨⟨Q,c.length+q,V,none,0,0⟩,rfl,⟨?_,TyR.nil _,?_,Bv5 _⟩,(z.setCell Fr _).setCell Fr _⟩
   ·rw[Ba a3];exact Sc Z Fr
   rw[Ba a3];simp;omega
 have d8:(p != 255)=true:=by simpa using h1
 rw[Pf h1]at hO;clear h1;go_in;go_wp2_with fail;refine Qb (Ba d2 _) a0 ?_;intro w0 c0 c6;have a4:=stay c0 C0;have a7:=stay c0 D0;have d4:=c6.size;have d9:=Pk a7;have x2:=Bb a4 2;have f0:=Pk a4;simp at x2;go_wp2_with (at_builtin;refine Bvw _ rfl _ _ 105 rfl (w.heap.size+1+1) 31 i0 _ 2 16 Bwq hi b2 b3 b4 rfl Ck _ _ _ rfl (Bvl _ _ _ _) ⟨w0.heap.size,0,none⟩ 1 1 [.i 3,.i p] rfl rfl ?c1 ?c2 ?c3 ?c4 ?c5 ?_)
 case c1=>exact Dv _ _ _ _ rfl
 case c2=>intro u G;simp at G;rcases G with rfl|rfl<;>rfl
 case c3=>unfold maxLen;omega
 case c4=>omega
 case c5=>simp;omega
 intro v0 d5 c9 a8 _;have a9:=(c6.alloc d4 (O7 3 p)).grown a8 Fm (fun j D=>by simp[Value.ownBlock]at D);have a5:=(a8.block _ (Pk (Bk a4 (O7 3 p))) (by simp[Value.ownBlock])).trans (Bk a4 (O7 3 p));have b0:=(a8.block _ (Pk (Bk a7 (O7 3 p))) (by simp[Value.ownBlock])).trans (Bk a7 (O7 3 p));have a6:d5.ownsRow (w.heap.size+1+1) 31 2 v0 ([((3:Int),p)]:TP).length (Bu [((3:Int),p)]):=by simpa[Bu] using c9
 have f1:=a9.size;have f2:=Pk b0;have f3:=Pk a5;have d0:=Bb a5 2;simp at d0;clear a8 c9 C0 D0 a0 c0 a4 a7 c6 x2;go_wp2_with (at_builtin;refine Pv rfl _ _ rfl (w.heap.size+1+1) _ [(3,p)] c I J K rfl a6 rfl (b1.below a9) Fm Bd ?_)
 intro v' w1 a1 C;have L:=a9.grown C Bd (fun j D=>by have:=(a6.lt j D).1;omega);have C1:=(C.block _ (Pk a5) (fun B=>by have:=(a6.lt _ B.symm).1;omega)).trans a5;have D1:=(C.block _ (Pk b0) (fun B=>by have:=(a6.lt _ B.symm).1;omega)).trans b0;have d1:([((3:Int),p)]++c).length<=1001:=Fm;have a2:w1.ownsRow (w.heap.size+1+1) 31 2 v' O.length (Bu O):=a1;rw[hO]at d1;have f4:=d1;clear C a5 b0 a9 a6 a1 hO d0;have b5:=L.size;go_wp2
 go_loopw [3] (fun v wr=>∃q:Nat,q<=f-O.length/\wr.ownsRow (w.heap.size+1+1) 31 2 v (O.length+q) (Bu (O++List.replicate q ((0:Int),(0:Int))))/\Bl w wr/\wr.heap[w.heap.size]?=some (O18 p nm I J K r1 r2 (f:Int) st ca cn cc ha hl hc ma ml mc)/\wr.heap[w.heap.size+1]?=some (O24 none 0 0 none 0 0))
  (fun v _=>f-lenOf v)
 case atStart=>exact⟨0,Bd,by simpa using a2,L,C1,D1⟩
 case round=>
  clear a2 L C1 D1 b5;obtain⟨q,hq,h,z,t,l⟩:=hrel;have N:=z.size;have lC:=Pk t;have lD:=Pk l;obtain⟨Q,V,rfl⟩:=Bg h;have x5:=Bb t 5;simp at x5;by_cases d3:O.length+q<f
  ·have kb:((O.length+q:Nat):Int)<(f:Int):=Bd;have HD:Hid (O++List.replicate (q+1) ((0:Int),(0:Int))=O++List.replicate q ((0:Int),(0:Int))++[((0:Int),(0:Int))]):=by unfold Hid;rw[Bzd,Bwe]
   go_wp2_with fail;refine Qm (Yr _) ?_;intro wt A;replace h:=Cx h (Kp.of_below (e:=none) A) Ck;replace z:=z.trans (A.mono N);replace t:=stay A t;replace l:=stay A l;replace N:=z.size;replace lC:=Pk t;replace lD:=Pk l;clear A x5;go_wp2_with (at_builtin;refine Bvw _ rfl _ _ 105 rfl (w.heap.size+1+1) 31 i0 _ 2 16 Bwq hi b2 b3 b4 rfl Ck _ _ _ rfl (h.alloc _) ⟨wt.heap.size,0,none⟩ 1 1 [.i 0,.i 0] rfl rfl ?c1 ?c2 ?c3 ?c4 ?c5 ?_)
   case c1=>exact Dv _ _ _ _ rfl
   case c2=>intro u G;simp at G;subst G;rfl
   case c3=>unfold maxLen;omega
   case c4=>omega
   case c5=>simp;omega
   intro v2 w2 Y F _;have b6:=(z.alloc N (O7 0 0)).grown F Fm (fun j D=>by have:=(h.lt j D).1;omega);have C2:=(F.block _ (Pk (Bk t (O7 0 0))) (fun B=>by have:=(h.lt _ B.symm).1;omega)).trans (Bk t (O7 0 0));have D2:=(F.block _ (Pk (Bk l (O7 0 0))) (fun B=>by have:=(h.lt _ B.symm).1;omega)).trans (Bk l (O7 0 0));obtain⟨b7,b8,rfl⟩:=Bg Y;have Z:w2.ownsRow (w.heap.size+1+1) 31 2 (.s b7 (O.length+q+1) b8) (O.length+(q+1)) (Bu (O++List.replicate (q+1) ((0:Int),(0:Int)))):=by rw[Ba HD,Ml];exact Y
   clear F h Y z t l;go_wp2;go_roundw
   case rel=>exact⟨q+1,Bd,Z,b6,C2,D2⟩
   case measure=>simp[lenOf];omega
  have kb:¬((O.length+q:Nat):Int)<(f:Int):=Bd;have eq:f-O.length=q:=Bd;obtain⟨z0,z1⟩:=cl2 l;obtain⟨q0,q1⟩:=fr2 l;simp at z0 z1;have b9:=(Kp.set_lo (e:=none) (b:=w.heap.size+1+1) (i:=0) (g:=w.heap.size+1) (w:=wr) Bd (.s Q (O.length+q) V)).trans (Kp.set_lo (i:=1) (g:=w.heap.size+1) Bd (.s none 0 0));have Z:=Cx h b9 Ck;have a3:=Bc eq;clear eq;go_wp2_with fail;refine tb (.agg #[.s Q (O.length+q) V,.s none 0 0]) (by simp[results,results110,go_sem,z0,z1]) ?_;refine⟨⟨Q,O.length+q,V,none,0,0⟩,rfl,⟨?_,TyR.nil _,?_,Bv5 _⟩,(z.setCell Fr _).setCell Fr _⟩
  ·rw[Ba a3];exact Sc Z Fr
  rw[Ba a3];simp;omega
def PBd.pval(b:PBd):Value:=.agg #[.slice (some ⟨b.tg,0,none⟩) b.T.length b.tc,.slice b.ya b.yn b.yc,.int .i64 b.cl,.int .i64 b.nm,.slice b.pa b.pl b.pc,.int .i64 b.r1,.int .i64 b.r2,.int .i64 b.lo,.int .i64 b.st,.slice b.ca b.cn b.cc,.slice b.ha b.hl b.hc,.slice b.ma b.ml b.mc,.slice b.la b.L.length b.lc,
 .slice b.fa1 b.fl1 b.fc1,.slice b.fa2 b.fl2 b.fc2,.slice (some ⟨b.tg,0,none⟩) b.T.length b.tc,.slice b.ya b.yn b.yc,.int .i64 b.cl,.int .i64 b.nm,.slice b.pa b.pl b.pc,.int .i64 b.r1,.int .i64 b.r2,.int .i64 b.lo,.int .i64 b.st,.slice b.ca b.cn b.cc,.slice b.ha b.hl b.hc,.slice b.ma b.ml b.mc,.slice b.la b.L.length b.lc]
def Tryz.infoPass:(prog.info? 212).map (·.size)=some 28:=Le
def Ri (b:PBd)(mp:Int->Option Be)(w:TW):Prop:=∀q w',Below w.heap.size w w'->Calls Tryz.prog 185 #[b.pval,.int .i64 q] w' fun e w''=>∃u:FrV,e=.returned (.tuple #[u.val,.bool (mp q).isSome])/\u.is (Ef (mp q)) w''/\Below w'.heap.size w' w''
def Ri.below{c:PBd}{mp:Int->Option Be}{b:TW}(h:Ri c mp w)(e:Bl w b):Ri c mp b:=fun q f g=>h q f (e.trans (g.mono e.size))
def Bkk(b:PBd)(c:List (Rd.Mp×Value×Value))(bb:Nat)(p:Int)(w:TW)(a6:b.ml=c.length)(c8:c.length<=1000)(a7:∀q∈c,q.1.locals.length<=5000/\q.1.stack.length<=5000)(hh:Ob w bb (.s b.ma b.ml b.mc) c):Calls prog 185 #[b.pval,.i p] w fun e F=>∃v:FrV,e=.r (.tuple #[v.val,.bool (Ka p (c.map Prod.fst)).isSome])/\v.is (Ef (Ka p (c.map Prod.fst))) F/\Bl w F:=by
 generalize f:Ka p (c.map Prod.fst)=r;have D:Hid (Ka p ((c.map Prod.fst).drop 0)=r):=f;obtain⟨a8,a9,b0,b1,b2,b3,O,Q,ya,yn,yc,V,Y,Z,pl,pc,r1,r2,lo,st,ca,cn,cc,ha,hl,hc,I,ml,J,la,lc,T,L⟩:=b;simp only at a6 hh;subst a6;simp only[PBd.pval];have c1:Hid (∀F,Bl w F->Ob F bb (.s I c.length J) c):=fun F h=>hh.kp (Kp.of_below (e:=none) h) Ck Ck;have c2:=Bc a7;clear f hh a7;have b4:=Bx w ((O26 (.p O) T.length Q ya yn yc V Y Z pl pc r1 r2 lo st ca cn cc ha hl hc I c.length J la L.length lc a8 a9 b0 b1 b2 b3 (.p O) T.length Q ya yn yc V Y Z pl pc r1 r2 lo st ca cn cc ha hl hc I c.length J la L.length lc)) (O24 none 0 0 none 0 0);have R0:=Bv w ((O26 (.p O) T.length Q ya yn yc V Y Z pl pc r1 r2 lo st ca cn cc ha hl hc I c.length J la L.length lc a8 a9 b0 b1 b2 b3 (.p O) T.length Q ya yn yc V Y Z pl pc r1 r2 lo st ca cn cc ha hl hc I c.length J la L.length lc)) (O24 none 0 0 none 0 0);go_in;go_wp2
 go_loopw [12] (fun v wr=>∃k:Nat,k<=c.length/\v=.i (k:Int)/\Hid (Ka p ((c.map Prod.fst).drop k)=r)/\Bl w wr/\wr.heap[w.heap.size+1]?=some (O24 none 0 0 none 0 0))
  (fun v _=>c.length-(intOf v).toNat)
 case atStart=>exact⟨0,Bd,rfl,D,b4,R0⟩
 case round=>
  clear D b4 R0;obtain⟨k,hk,rfl,D,hB,CR⟩:=hrel;have c3:=hB.size;have lR:=Pk CR;by_cases j:k<c.length
  ·have b5:=Ba c1 _ hB;obtain⟨g,hg,c9,_,a0⟩:=Cf b5.1 Bd;have y0:=(a0 _ (Ge c k j 0 Bd).2).trans (Ge c k j 0 Bd).1;have y1:=(a0 _ (Ge c k j 1 Bd).2).trans (Ge c k j 1 Bd).1;have y2:=(a0 _ (Ge c k j 2 Bd).2).trans (Ge c k j 2 Bd).1;obtain⟨a3,a4⟩:=b5.2 _ (Bvh j);obtain⟨b6,b7⟩:=Ba c2 _ (Bvh j);have hd:(c.map Prod.fst).drop k=c[k].1::(c.map Prod.fst).drop (k+1):=by rw[Wr (by simpa using j)];simp
   have f:=Ba D;rw[hd,Ka]at f;generalize c[k]=x at *;obtain⟨⟨l,m,t⟩,v1,v2⟩:=x;simp only at y0 y1 y2 a3 a4 b6 b7 f;obtain⟨z,A,rfl⟩:=Bg a3;obtain⟨B,C,rfl⟩:=Bg a4;simp at y0 y1 y2;subst hg;have kb:(k:Int)<(c.length:Int):=Bd;have b8:=hB.alloc c3 (O17 l z m.length A B t.length C);have b9:=Bk CR (O17 l z m.length A B t.length C);clear a0 hd D;by_cases G:l=p
   ·rw[Sp G]at f;have c4:(l==p)=true:=by simp[G]
    have HE:=Bc f;have a5:=Bkw l ⟨z,m.length,A,B,t.length,C⟩ (wr.alloc (O17 l z m.length A B t.length C));simp only[FrV.val]at a5;have c5:=Bc a5;clear f G a5;go_wp2_with fail;refine Qm (Ba c5) ?_;intro w1 a1;have a2:=stay a1 b9;obtain⟨K,N⟩:=cl2 a2;obtain⟨q0,q1⟩:=fr2 a2;have lr:=Pk a2;simp at K N;have c0:=QB b8 a1;have d0:=c0.size;have c6:=(TyR.of_tys a3).below ((QN (O17 l z m.length A B t.length C)).trans (a1.mono Fr));have c7:=(TyR.of_tys a4).below ((QN (O17 l z m.length A B t.length C)).trans (a1.mono Fr));go_wp2_with fail;obtain rfl:=Ba HE;refine tb (.tuple #[.agg #[.s z m.length A,.s B t.length C],.bool true]) (by simp[results,results185,go_sem,K,N]) ?_;exact⟨⟨z,m.length,A,B,t.length,C⟩,rfl,FrV.is.set2 ⟨c6,c7,b6,b7⟩ a2 _ _,(c0.setCell Fr _).setCell Fr _⟩
   rw[Pf G]at f;have c4:(l==p)=false:=by simp[G]
   have HG:Hid (Ka p ((c.map Prod.fst).drop (k+1))=r):=f;clear f G;go_wp2;go_roundw
   case rel=>exact⟨k+1,Bd,Lt,HG,b8,b9⟩
   case measure=>simp[intOf];omega
  have HE:Hid (none=r):=by unfold Hid;rw[<- Ba D,Bvi Fm,Ka]
  have kb:¬(k:Int)<(c.length:Int):=Bd;obtain⟨K,N⟩:=cl2 CR;obtain⟨q0,q1⟩:=fr2 CR;simp at K N;clear D;go_wp2_with fail;obtain rfl:=Ba HE;refine tb (.tuple #[.agg #[.s none 0 0,.s none 0 0],.bool false]) (by simp[results,results185,go_sem,K,N]) ?_;exact⟨⟨none,0,0,none,0,0⟩,rfl,⟨TyR.nil _,TyR.nil _,by simp[Ef],by simp[Ef]⟩,(hB.setCell Fr _).setCell Fr _⟩
def Iv (T:TI)(mp:Int->Option Be)(x:Be)(q:Int):Bool:=!(mp q).isSome || Hx T x (Ef (mp q))
def J8 (T:TI)(mp:Int->Option Be)(x:Be)(q:Int):Int:=if (mp q).isSome=false then 8 else if Iv T mp x q=false then 9 else 0
def To (T:TI)(mp:Int->Option Be)(len:Int)(x:Be)(q:Int):Int:=if len<=q then 11 else if Iv T mp x q=false then 9 else 0
def Xl(b:PBd)(mp:Int->Option Be)(v:FrV)(x:Be)(q:Int)(w:TW)(hl:b.T.length<=1000)(hT:Dl w b.tg b.T)(hM:Ri b mp w)(hv:v.is x w):Calls prog 184 #[b.pval,v.val,.i q] w fun e f=>e=.r (.bool (Iv b.T mp x q))/\Bl w f:=by
 have a2:=fun f h=>hM q f h;have a3:=fun (u:FrV) y f (h:Bl w f) hu=>Bd5 (ya:=b.ya) (yn:=b.yn) (yc:=b.yc) b.T b.tg b.tc v u x y f hl (hT.below h) (hv.below h) hu;unfold Iv;generalize mp q=M at *;obtain⟨a4,a5,a6,a7,a8,a9,g,j,ya,yn,yc,l,m,s,t,A,B,C,D,F,G,cn,I,J,K,N,O,Q,V,Y,Z,T,L⟩:=b;obtain⟨xa,xn,xc,za,zn,zc⟩:=v;simp only[PBd.pval,FrV.val]at a2 a3 ⊢;have HM:=Bc a2;have b1:=Bc a3;clear a2 a3 hM hT hv;have a1:=Bx w ((O26 (.p g) T.length j ya yn yc l m s t A B C D F G cn I J K N O Q V Y L.length Z a4 a5 a6 a7 a8 a9 (.p g) T.length j ya yn yc l m s t A B C D F G cn I J K N O Q V Y L.length Z)) (O24 xa xn xc za zn zc);have P0:=Cb w ((O26 (.p g) T.length j ya yn yc l m s t A B C D F G cn I J K N O Q V Y L.length Z a4 a5 a6 a7 a8 a9 (.p g) T.length j ya yn yc l m s t A B C D F G cn I J K N O Q V Y L.length Z)) (O24 xa xn xc za zn zc);have X0:=Bv w ((O26 (.p g) T.length j ya yn yc l m s t A B C D F G cn I J K N O Q V Y L.length Z a4 a5 a6 a7 a8 a9 (.p g) T.length j ya yn yc l m s t A B C D F G cn I J K N O Q V Y L.length Z)) (O24 xa xn xc za zn zc);cases M with
 | none =>
  go_in;go_wp2_with (refine Bwd Hd 212 (.tmp 3) Hd w.heap.size Hd 212 _ (0,0) _ P0 Bv2 Hd Tryz.infoPass ?_)
  refine(Ba HM _ a1).mono ?_;rintro e w1 ⟨u,rfl,hu,c⟩;obtain⟨ua,un,uc,va,vn,vc⟩:=u;have a0:=QB a1 c;go_wp2;go_ret;exact⟨rfl,a0.alloc a0.size _⟩
 | some z =>
  go_in;go_wp2_with (refine Bwd Hd 212 (.tmp 3) Hd w.heap.size Hd 212 _ (0,0) _ P0 Bv2 Hd Tryz.infoPass ?_)
  refine(Ba HM _ a1).mono ?_;rintro e w1 ⟨u,rfl,hu,c⟩;obtain⟨ua,un,uc,va,vn,vc⟩:=u;have a0:=QB a1 c;have b2:=a0.size;have b0:=a0.alloc b2 (O24 ua un uc va vn vc);have hf:=Ba b1 ⟨ua,un,uc,va,vn,vc⟩ _ _ b0 (hu.below (QN (O24 ua un uc va vn vc)));simp only at hf;have HF:=Bc hf;have p0:=Bb (stay c P0) 0;have p1:=Bb (stay c P0) 1;have x0:=Bb (stay c X0) 0;have x1:=Bb (stay c X0) 1;have lP:=Pk (stay c P0);have lX:=Pk (stay c X0);simp at p0 p1 x0 x1;clear hf c P0 X0;go_wp2_with fail;refine Qm (Ba HF) ?_;intro w2 b3;go_wp2;go_ret;exact⟨Fr,QB b0 b3⟩
def Bgz(b:PBd)(mp:Int->Option Be)(v:FrV)(x:Be)(q:Int)(w:TW)(hl:b.T.length<=1000)(hT:Dl w b.tg b.T)(hM:Ri b mp w)(hv:v.is x w):Calls prog 235 #[b.pval,v.val,.i q] w fun e f=>e=.r (.i (J8 b.T mp x q))/\Bl w f:=by
 have a2:=fun f h=>hM q f h;have a3:=fun f (h:Bl w f)=>Xl b mp v x q f hl (hT.below h) (hM.below h) (hv.below h);unfold J8;generalize Iv b.T mp x q=FA at *;generalize mp q=M at *;obtain⟨a4,a5,a6,a7,a8,a9,g,j,ya,yn,yc,l,m,s,t,A,B,C,D,F,G,cn,I,J,K,N,O,Q,V,Y,Z,T,L⟩:=b;obtain⟨xa,xn,xc,za,zn,zc⟩:=v;simp only[PBd.pval,FrV.val]at a2 a3 ⊢;have HM:=Bc a2;have b1:=Bc a3;clear a2 a3 hM hT hv;have a1:=Bx w ((O26 (.p g) T.length j ya yn yc l m s t A B C D F G cn I J K N O Q V Y L.length Z a4 a5 a6 a7 a8 a9 (.p g) T.length j ya yn yc l m s t A B C D F G cn I J K N O Q V Y L.length Z)) (O24 xa xn xc za zn zc);have P0:=Cb w ((O26 (.p g) T.length j ya yn yc l m s t A B C D F G cn I J K N O Q V Y L.length Z a4 a5 a6 a7 a8 a9 (.p g) T.length j ya yn yc l m s t A B C D F G cn I J K N O Q V Y L.length Z)) (O24 xa xn xc za zn zc);have X0:=Bv w ((O26 (.p g) T.length j ya yn yc l m s t A B C D F G cn I J K N O Q V Y L.length Z a4 a5 a6 a7 a8 a9 (.p g) T.length j ya yn yc l m s t A B C D F G cn I J K N O Q V Y L.length Z)) (O24 xa xn xc za zn zc);cases M with
 | none =>
  go_in;go_wp2_with (refine Bwd Hd 212 (.tmp 3) Hd w.heap.size Hd 212 _ (0,0) _ P0 Bv2 Hd Tryz.infoPass ?_)
  refine(Ba HM _ a1).mono ?_;rintro e w1 ⟨u,rfl,hu,c⟩;obtain⟨ua,un,uc,va,vn,vc⟩:=u;have a0:=QB a1 c;go_wp2;go_ret;exact⟨rfl,a0.alloc a0.size _⟩
 | some z =>
  rw[Pf Fr];cases FA
  all_goals
   go_in;go_wp2_with (refine Bwd Hd 212 (.tmp 3) Hd w.heap.size Hd 212 _ (0,0) _ P0 Bv2 Hd Tryz.infoPass ?_)
   refine(Ba HM _ a1).mono ?_;rintro e w1 ⟨u,rfl,hu,c⟩;obtain⟨ua,un,uc,va,vn,vc⟩:=u;have a0:=QB a1 c;have b2:=a0.size;have b0:=a0.alloc b2 (O24 ua un uc va vn vc);have P1:=stay c P0;have x0:=Bb (stay c X0) 0;have x1:=Bb (stay c X0) 1;have lP:=Pk P1;have lX:=Pk (stay c X0);simp at x0 x1;have P2:=Bk P1 (O24 ua un uc va vn vc);clear c P0 X0;go_wp2_with (refine Bwd Hd 212 (.tmp 3) Hd w.heap.size Hd 212 _ (0,0) _ P2 Bv2 Hd Tryz.infoPass ?_)
   refine Qm (Ba b1 _ b0) ?_;intro w2 b3;go_wp2;go_ret;exact⟨rfl,QB b0 b3⟩
def Bqx(b:PBd)(mp:Int->Option Be)(v:FrV)(x:Be)(q:Int)(w:TW)(hl:b.T.length<=1000)(hT:Dl w b.tg b.T)(hM:Ri b mp w)(hv:v.is x w):Calls prog 236 #[b.pval,v.val,.i q] w fun e c=>e=.r (.i (To b.T mp (b.cn:Int) x q))/\Bl w c:=by
 have Y:=fun c (h:Bl w c)=>Xl b mp v x q c hl (hT.below h) (hM.below h) (hv.below h);unfold To;generalize Iv b.T mp x q=FA at *;obtain⟨a0,a1,a2,a3,a4,a5,f,g,ya,yn,yc,j,l,m,s,t,z,A,B,C,D,cn,F,G,I,J,K,N,O,Q,V,T,L⟩:=b;obtain⟨xa,xn,xc,za,zn,zc⟩:=v;simp only[PBd.pval,FrV.val]at Y ⊢;have a6:=Bc Y;clear Y hM hT hv;have Z:=Bx w ((O26 (.p f) T.length g ya yn yc j l m s t z A B C D cn F G I J K N O Q L.length V a0 a1 a2 a3 a4 a5 (.p f) T.length g ya yn yc j l m s t z A B C D cn F G I J K N O Q L.length V)) (O24 xa xn xc za zn zc);have P0:=Cb w ((O26 (.p f) T.length g ya yn yc j l m s t z A B C D cn F G I J K N O Q L.length V a0 a1 a2 a3 a4 a5 (.p f) T.length g ya yn yc j l m s t z A B C D cn F G I J K N O Q L.length V)) (O24 xa xn xc za zn zc);by_cases hq:(cn:Int)<=q;·rw[Sp hq];go_in;go_wp2;go_ret;exact⟨rfl,Z⟩
 rw[Pf hq];have a8:q<(cn:Int):=Bd
 cases FA
 all_goals
  go_in;go_wp2_with (refine Bwd Hd 212 (.tmp 3) Hd w.heap.size Hd 212 _ (0,0) _ P0 Bv2 Hd Tryz.infoPass ?_)
  refine Qm (Ba a6 _ Z) ?_;intro w2 a7;go_wp2;go_ret;exact⟨rfl,QB Z a7⟩
def Hg (T:TI)(mp:Int->Option Be)(p:Int)(lo:TP):List Rd.Hnd->Int
 | []=>0
 | h::r=>if El h p=false then Hg T mp p lo r else if J8 T mp ⟨lo,[(3,h.cl)]⟩ h.target≠0 then J8 T mp ⟨lo,[(3,h.cl)]⟩ h.target else Hg T mp p lo r
def Bkm(b:PBd)(mp:Int->Option Be)(f:List Rd.Hnd)(bb:Nat)(p:Int)(v:FrV)(x:Be)(w:TW)(hl:b.T.length<=1000)(hT:Dl w b.tg b.T)(hM:Ri b mp w)(c3:b.hl=f.length)(d7:f.length<=1000)(c4:J5 w bb (.s b.ha b.hl b.hc) f)(hv:v.is x w):Calls prog 234 #[b.pval,.i p,v.val] w fun e l=>e=.r (.i (Hg b.T mp p x.locals f))/\Bl w l:=by
 have hJ:=fun u y q l (h:Bl w l) hu=>Bgz b mp u y q l hl (hT.below h) (hM.below h) hu;have hC:=fun c l (h:Bl w l)=>Bcq c v x l (hv.below h);have a5:Hid (∀l,Bl w l->J5 l bb (.s b.ha b.hl b.hc) f):=fun l h=>c4.kp (Kp.of_below (e:=none) h) Ck;generalize j:Hg b.T mp p x.locals f=R;have A:Hid (Hg b.T mp p x.locals (f.drop 0)=R):=j;obtain⟨a6,a7,a8,a9,b0,b1,B,C,ya,yn,yc,D,F,G,I,J,K,N,O,Q,V,cn,Y,Z,d8,hc,ma,ml,mc,la,lc,T,L⟩:=b;obtain⟨xa,xn,xc,za,zn,zc⟩:=v;simp only at c3 A;subst c3;unfold Hid at a5;simp only[PBd.pval,FrV.val]at hJ hC a5 ⊢;have d3:=Bc a5;have HJ:=Bc hJ;have HC:=Bc hC;clear j hT hM hv c4 hJ hC a5 hl;have c5:=Bx w (O26 (.p B) T.length C ya yn yc D F G I J K N O Q V cn Y Z f.length hc ma ml mc la L.length lc a6 a7 a8 a9 b0 b1 (.p B) T.length C ya yn yc D F G I J K N O Q V cn Y Z f.length hc ma ml mc la L.length lc) (O24 xa xn xc za zn zc);have P0:=Cb w (O26 (.p B) T.length C ya yn yc D F G I J K N O Q V cn Y Z f.length hc ma ml mc la L.length lc a6 a7 a8 a9 b0 b1 (.p B) T.length C ya yn yc D F G I J K N O Q V cn Y Z f.length hc ma ml mc la L.length lc) (O24 xa xn xc za zn zc);have X0:=Bv w (O26 (.p B) T.length C ya yn yc D F G I J K N O Q V cn Y Z f.length hc ma ml mc la L.length lc a6 a7 a8 a9 b0 b1 (.p B) T.length C ya yn yc D F G I J K N O Q V cn Y Z f.length hc ma ml mc la L.length lc) (O24 xa xn xc za zn zc);go_in;go_wp2
 go_loopw [15] (fun s wr=>∃q:Nat,q<=f.length/\s=.i (q:Int)/\Hid (Hg T mp p x.locals (f.drop q)=R)/\Bl w wr/\wr.heap[w.heap.size]?=some (O26 (.p B) T.length C ya yn yc D F G I J K N O Q V cn Y Z f.length hc ma ml mc la L.length lc a6 a7 a8 a9 b0 b1 (.p B) T.length C ya yn yc D F G I J K N O Q V cn Y Z f.length hc ma ml mc la L.length lc)/\wr.heap[w.heap.size+1]?=some (O24 xa xn xc za zn zc))
  (fun s _=>f.length-(intOf s).toNat)
 case atStart=>exact⟨0,Bd,rfl,A,c5,P0,X0⟩
 case round=>
  clear A c5 P0 X0;obtain⟨q,hq,rfl,A,hB,CP,CX⟩:=hrel;have c6:=hB.size;by_cases m:q<f.length
  ·obtain⟨g,hg,d9,_,a1⟩:=Cf (Ba d3 _ hB) Bd;have y0:=(a1 _ (De f q m 0 Bd).2).trans (De f q m 0 Bd).1;have y1:=(a1 _ (De f q m 1 Bd).2).trans (De f q m 1 Bd).1;have y2:=(a1 _ (De f q m 2 Bd).2).trans (De f q m 2 Bd).1;have y3:=(a1 _ (De f q m 3 Bd).2).trans (De f q m 3 Bd).1;have hd:f.drop q=f[q]::f.drop (q+1):=Wr m;have j:=Ba A;rw[hd,Hg]at j;generalize f[q]=hh at *;obtain⟨h1,h2,t,z⟩:=hh;simp at y0 y1 y2 y3;simp only at j;subst hg;have kb:(q:Int)<(f.length:Int):=Bd;have b2:=hB.alloc c6 (O19 h1 h2 t z);have b3:=Bk CP (O19 h1 h2 t z);have b4:=Bk CX (O19 h1 h2 t z);have c7:=Bf wr (O19 h1 h2 t z);have b5:=Y4 ⟨h1,h2,t,z⟩ p (wr.alloc (O19 h1 h2 t z));simp only at b5;generalize El ⟨h1,h2,t,z⟩ p=CV at *;have c8:=Bc b5;clear b5 hd a1 A;cases CV with
   | false =>
    rw[Sp rfl]at j;have HG:Hid (Hg T mp p x.locals (f.drop (q+1))=R):=j;clear j;go_wp2_with fail;refine Qb (Ba c8) b2 ?_;intro w1 a0 a2;go_wp2;go_roundw
    case rel=>exact⟨q+1,Bd,Lt,HG,a2,stay a0 b3,stay a0 b4⟩
    case measure=>simp[intOf];omega
   | true =>
    rw[Pf Fr]at j;have c9:=Bc j;clear j;go_wp2_with fail;refine Qb (Ba c8) b2 ?_;intro w1 a0 a2;have d0:=stay a0 b3;have b6:=stay a0 b4;have b7:=stay a0 c7;clear a0 b3 b4 c7 CP CX b2 hB c6;obtain⟨x0,x1⟩:=cl2 b6;have z3:=Bb b7 3;simp at x0 x1 z3;go_wp2_with fail;refine(Ba HC z _ a2).mono ?_;rintro e w2 ⟨u,rfl,hu,a3⟩;obtain⟨ua,un,uc,va,vn,vc⟩:=u;have d1:=QB a2 a3;have d4:=d1.size;have b8:=Bk (stay a3 d0) (O24 ua un uc va vn vc);have d5:=Bk (stay a3 b6) (O24 ua un uc va vn vc);have b9:=stay a3 b7;have c0:=d1.alloc d4 (O24 ua un uc va vn vc);have d6:=hu.below (QN (O24 ua un uc va vn vc));have hj:=Ba HJ ⟨ua,un,uc,va,vn,vc⟩ _ t _ c0 d6;simp only at hj;have j:=Ba c9;generalize J8 T mp ⟨x.locals,[(3,z)]⟩ t=JV at *;have d2:=Bc hj;have z2:=Bb b9 2;have lH:=Pk b9;simp at z2;clear a3 d0 b6 b7 b9 x0 x1 z3 hu hj c9 a2;by_cases a4:JV=0
    ·rw[Pf (by simpa using a4)]at j;have HG:Hid (Hg T mp p x.locals (f.drop (q+1))=R):=j;subst a4;clear j;go_wp2_with (refine Bwd Hd 212 (.tmp 3) Hd w.heap.size Hd 212 _ (0,0) _ b8 Bv2 Hd Tryz.infoPass ?_)
     refine Qb (Ba d2) c0 ?_;intro w3 c1 c2;go_wp2;go_roundw
     case rel=>exact⟨q+1,Bd,Lt,HG,c2,stay c1 b8,stay c1 d5⟩
     case measure=>simp[intOf];omega
    rw[Sp a4]at j;have HE:=Bc j;have f0:(JV != 0)=true:=by simpa using a4
    clear j a4;go_wp2_with (refine Bwd Hd 212 (.tmp 3) Hd w.heap.size Hd 212 _ (0,0) _ b8 Bv2 Hd Tryz.infoPass ?_)
    refine Qb (Ba d2) c0 ?_;intro w3 c1 c2;go_wp2;go_ret;exact⟨by rw[<- Ba HE];rfl,c2⟩
  have HE:Hid ((0:Int)=R):=by unfold Hid;rw[<- Ba A,Bvi Bd];rfl
  have kb:¬(q:Int)<(f.length:Int):=Bd;clear A;go_wp2;go_ret;exact⟨by rw[<- Ba HE];rfl,hB⟩
def Tn (T:TI)(mp:Int->Option Be)(H:Int)(B:Option Be)(op n nxt len:Int):Int :=
 if H≠0 then H else if B.isSome=false then 10 else if Dx op=true/\J8 T mp (Ef B) n≠0 then J8 T mp (Ef B) n
 else if Dz op=false then 0 else To T mp len (Ef B) nxt
def Bmz(b:PBd)(mp:Int->Option Be)(p:Nat)(op n H:Int)(RB:Option Be)(v:FrV)(w:TW)(hl:b.T.length<=1000)(hT:Dl w b.tg b.T)(hM:Ri b mp w)(hp:p<=100000) (hH:∀c,Bl w c->Calls prog 234 #[b.pval,.i (p:Int),v.val] c fun e c7=>e=.r (.i H)/\Bl c c7) (d3:∀c,Bl w c->Calls prog 221 #[b.val,.agg #[.i (p:Int),.i op,.i n],v.val] c fun e c7=>∃u:FrV,e=.r (.tuple #[u.val,.bool RB.isSome])/\(∀y,RB=some y->u.is y c7)/\Bl c c7):Calls prog 186 #[b.pval,.agg #[.i (p:Int),.i op,.i n],v.val] w fun e c=>∃u:FrV, e=.r (.tuple #[u.val,.i (Tn b.T mp H RB op n ((p+Cd.wd op:Nat):Int) (b.cn:Int))])/\(Tn b.T mp H RB op n ((p+Cd.wd op:Nat):Int) (b.cn:Int)=0->∀y,RB=some y->u.is y c)/\Bl w c:=by
 have hJ:=fun u y q c (h:Bl w c) Q=>Bgz b mp u y q c hl (hT.below h) (hM.below h) Q;have d4:=fun u y q c (h:Bl w c) Q=>Bqx b mp u y q c hl (hT.below h) (hM.below h) Q;have g1:=fun c=>W7 p op n c hp;have g2:=fun c=>Baz op c;have g3:=fun c=>Yw op c;generalize D:Tn b.T mp H RB op n ((p+Cd.wd op:Nat):Int) (b.cn:Int)=A;unfold Tn at D;generalize p+Cd.wd op=d5 at *;obtain⟨d6,d7,d8,d9,f0,f1,tg,tc,ya,yn,yc,cl,nm,pa,pl,pc,r1,r2,lo,st,ca,cn,cc,ha,a2,hc,ma,ml,mc,la,lc,T,L⟩:=b;obtain⟨xa,xn,xc,za,zn,zc⟩:=v;simp only[PBd.pval,PBd.val,FrV.val]at hJ d4 hH d3 D ⊢;generalize Dx op=J at *;generalize Dz op=G at *;have HH:=Bc hH;have f2:=Bc d3;have HJ:=Bc hJ;have g4:=Bc d4;have g5:=Bc g1;have g6:=Bc g2;have f3:=Bc g3;clear hH d3 hJ d4 g1 g2 g3 hT hM hl;have a0:=Mq w (O26 (.p tg) T.length tc ya yn yc cl nm pa pl pc r1 r2 lo st ca cn cc ha a2 hc ma ml mc la L.length lc d6 d7 d8 d9 f0 f1 (.p tg) T.length tc ya yn yc cl nm pa pl pc r1 r2 lo st ca cn cc ha a2 hc ma ml mc la L.length lc) (O15 (p:Int) op n) (O24 xa xn xc za zn zc) (O24 none 0 0 none 0 0);obtain⟨P0,I0,X0,R0⟩:=J2 w (O26 (.p tg) T.length tc ya yn yc cl nm pa pl pc r1 r2 lo st ca cn cc ha a2 hc ma ml mc la L.length lc d6 d7 d8 d9 f0 f1 (.p tg) T.length tc ya yn yc cl nm pa pl pc r1 r2 lo st ca cn cc ha a2 hc ma ml mc la L.length lc) (O15 (p:Int) op n) (O24 xa xn xc za zn zc) (O24 none 0 0 none 0 0);have f4:=a0.size;by_cases h0:H=0
 ·subst h0;rw[Pf Fr]at D;cases RB with
  | none =>
   rw[Sp Fr]at D;have N:=Bc D;clear D;go_in;go_wp2_with (refine Bwd Hd 212 (.tmp 3) Hd w.heap.size Hd 212 _ (0,0) _ P0 Bv2 Hd Tryz.infoPass ?_)
   refine Qm (Ba HH _ a0) ?_;intro w1 j;have K:=a0.trans (j.mono f4);have c8:=K.size;have P1:=stay j P0;have I1:=stay j I0;have X1:=stay j X0;have R1:=stay j R0;clear j P0 I0 X0 R0;obtain⟨m0,m1,m2,m3,m4,m5,m6,m7,m8,m9,a7,a8,a9,b0,b1,b2,b3,b4,b5,b6,b7,b8,b9,c0,c1,c2,c3,c4⟩:=Bq7 P1;simp at m0 m1 m2 m3 m4 m5 m6 m7 m8 m9 a7 a8 a9 b0 b1 b2 b3 b4 b5 b6 b7 b8 b9 c0 c1 c2 c3 c4;obtain⟨V,Y,Z⟩:=cl3 I1;simp at V Y Z;obtain⟨x0,x1⟩:=cl2 X1;simp at x0 x1;go_wp2_with fail;refine(Ba f2 _ K).mono ?_;rintro e w2 ⟨u,rfl,-,F⟩;obtain⟨l,m,t,z,B,vc⟩:=u;have a3:=K.trans (F.mono c8);have f5:=a3.size;have I:=stay F R1;obtain⟨f,g⟩:=cl2 I;obtain⟨q0,q1⟩:=fr2 I;have lr:=Pk I;simp at f g;clear m0 m1 m2 m3 m4 m5 m6 m7 m8 m9 a7 a8 a9 b0 b1 b2 b3 b4 b5 b6 b7 b8 b9 c0 c1 c2 c3 c4 V Y Z x0 x1 F;have h2:=Ba N;subst h2;go_wp2_with fail;refine tb (.tuple #[.agg #[.s none 0 0,.s none 0 0],.i 10]) (by simp[results,Byd,go_sem,f,g,lr]) ?_;exact⟨⟨none,0,0,none,0,0⟩,rfl,fun h=>(by simp at h),by repeat (first|refine Bvq ?_ Fm _|refine Bwu ?_ (by first|omega|(simp;omega)) _|exact a3)⟩
  | some y =>
   rw[Pf Fr,show Ef (some y)=y from rfl]at D;have N:=Bc D;clear D;go_in;go_wp2_with (refine Bwd Hd 212 (.tmp 3) Hd w.heap.size Hd 212 _ (0,0) _ P0 Bv2 Hd Tryz.infoPass ?_)
   refine Qm (Ba HH _ a0) ?_;intro w1 j;have K:=a0.trans (j.mono f4);have c8:=K.size;have P1:=stay j P0;have I1:=stay j I0;have X1:=stay j X0;have R1:=stay j R0;clear j P0 I0 X0 R0;obtain⟨m0,m1,m2,m3,m4,m5,m6,m7,m8,m9,a7,a8,a9,b0,b1,b2,b3,b4,b5,b6,b7,b8,b9,c0,c1,c2,c3,c4⟩:=Bq7 P1;simp at m0 m1 m2 m3 m4 m5 m6 m7 m8 m9 a7 a8 a9 b0 b1 b2 b3 b4 b5 b6 b7 b8 b9 c0 c1 c2 c3 c4;obtain⟨V,Y,Z⟩:=cl3 I1;simp at V Y Z;obtain⟨x0,x1⟩:=cl2 X1;simp at x0 x1;go_wp2_with fail;refine(Ba f2 _ K).mono ?_;rintro e w2 ⟨u,rfl,Q,F⟩;have Q:=Q y rfl;obtain⟨l,m,t,z,B,vc⟩:=u;have a3:=K.trans (F.mono c8);have f5:=a3.size;have P2:=Bk (stay F P1) (O24 l m t z B vc);have I2:=Bk (stay F I1) (O24 l m t z B vc);have I:=Bk (stay F R1) (O24 l m t z B vc);have Y2:=Bf w2 (O24 l m t z B vc);have a4:=a3.alloc f5 (O24 l m t z B vc);have f6:=a4.size;have c9:=Q.below (QN (O24 l m t z B vc));have c5:=Bb (stay F I1) 1;have lI:=Pk (stay F I1);have lR:=Pk (stay F R1);simp at c5;clear m0 m1 m2 m3 m4 m5 m6 m7 m8 m9 a7 a8 a9 b0 b1 b2 b3 b4 b5 b6 b7 b8 b9 c0 c1 c2 c3 c4 V Y Z x0 x1 F P1 I1 X1 R1 Q;go_wp2_with fail;refine Qm (Ba g6 _) ?_;rintro w3 rfl
   go_upto_if 34 with fail
   go_cut [8] from 12 (fun _ wx=>Bl w wx/\wx.heap[w.heap.size]?=some (O26 (.p tg) T.length tc ya yn yc cl nm pa pl pc r1 r2 lo st ca cn cc ha a2 hc ma ml mc la L.length lc d6 d7 d8 d9 f0 f1 (.p tg) T.length tc ya yn yc cl nm pa pl pc r1 r2 lo st ca cn cc ha a2 hc ma ml mc la L.length lc)/\wx.heap[w.heap.size+1]?=some (O15 (p:Int) op n)/\wx.heap[w.heap.size+1+1+1]?=some (O24 none 0 0 none 0 0)/\wx.heap[w2.heap.size]?=some (O24 l m t z B vc) /\
    FrV.is ⟨l,m,t,z,B,vc⟩ y wx/\Hid ((if G=false then 0 else To T mp (cn:Int) y (d5:Int))=A))
   case first=>
    have C:=Ba N;cases J with
    | false =>
     rw[Pf Fr]at C;have f7:=Bc C;clear C N;go_wp2
     go_meet
     case rel=>exact⟨a4,P2,I2,I,Y2,c9,f7⟩
    | true =>
     have hj:=Ba HJ ⟨l,m,t,z,B,vc⟩ y n _ a4 c9;simp only at hj;generalize J8 T mp y n=JV at *;have g7:=Bc hj;clear hj;have h3:=Bb I2 2;simp at h3;by_cases a5:JV=0
     ·rw[Pf (by simp[a5])]at C;have f7:=Bc C;subst a5;clear C N;go_wp2_with (refine Bwd Hd 212 (.tmp 3) Hd w.heap.size Hd 212 _ (0,0) _ P2 Bv2 Hd Tryz.infoPass ?_)
      refine Qm (Ba g7) ?_;intro w4 O;have d0:=a4.trans (O.mono f6);go_wp2
      go_meet
      case rel=>exact⟨d0,stay O P2,stay O I2,stay O I,stay O Y2,c9.below O,f7⟩
     rw[Sp ⟨rfl,a5⟩]at C;have i3:(JV != 0)=true:=by simpa using a5
     have HE:=Bc C;have f8:A≠0:=by rw[<- C];exact a5
     clear C N a5;go_wp2_with (refine Bwd Hd 212 (.tmp 3) Hd w.heap.size Hd 212 _ (0,0) _ P2 Bv2 Hd Tryz.infoPass ?_)
     refine Qm (Ba g7) ?_;intro w4 O;have d0:=a4.trans (O.mono f6);have i4:=d0.size;have R4:=stay O I;obtain⟨f,g⟩:=cl2 R4;obtain⟨q0,q1⟩:=fr2 R4;have lr:=Pk R4;simp at f g;go_wp2_with fail;refine tb (.tuple #[.agg #[.s none 0 0,.s none 0 0],.i JV]) (by simp[results,Byd,go_sem,f,g]) ?_;exact⟨⟨none,0,0,none,0,0⟩,by rw[<- Ba HE],fun h=>absurd h f8,by repeat (first|refine Bvq ?_ Fm _|exact d0)⟩
   case rest=>
    obtain⟨f9,P5,I5,R5,Y5,g0,HE⟩:=hcut;have h4:=f9.size;clear N P2 I2 I Y2 c9 a4 f6 g6 HJ HH f2 a3 f5 c5 lI;have lY:=Pk Y5;have C:=Ba HE;have c5:=Bb I5 1;simp at c5;cases G with
    | false =>
     rw[Sp rfl]at C;obtain⟨y0,y1⟩:=cl2 Y5;simp at y0 y1;obtain rfl:=C;obtain⟨f,g⟩:=cl2 R5;obtain⟨q0,q1⟩:=fr2 R5;have lr:=Pk R5;simp at f g;clear HE;go_wp2_with fail;refine Qm (Ba f3 _) ?_;rintro w6 rfl;go_wp2_with fail;refine tb (.tuple #[.agg #[.s l m t,.s z B vc],.i 0]) (by simp[results,Byd,go_sem,f,g]) ?_;exact⟨⟨l,m,t,z,B,vc⟩,rfl,g0.set2 R5 _ _,by repeat (first|refine Bvq ?_ Fm _|exact f9)⟩
    | true =>
     rw[Pf Fr]at C;obtain⟨V,Y,Z⟩:=cl3 I5;simp at V Y Z;go_wp2_with fail;refine Qm (Ba f3 _) ?_;rintro w6 rfl;go_wp2_with fail;refine Qm (Ba g5 _) ?_;intro w7 a6;have d1:=f9.trans (a6.mono h4);have g8:=d1.size;have P7:=stay a6 P5;have R7:=stay a6 R5;have Y7:=stay a6 Y5;have g9:=g0.below a6;clear a6 P5 I5 R5 Y5 g0 V Y Z HE f3 g5 c5;have hg:=Ba g4 ⟨l,m,t,z,B,vc⟩ y (d5:Int) _ d1 g9;simp only at hg;generalize To T mp (cn:Int) y (d5:Int)=GV at *;have h1:=Bc hg;obtain⟨y0,y1⟩:=cl2 Y7;simp at y0 y1;clear hg g4;obtain rfl:=C;by_cases d2:GV=0
     ·subst d2;go_wp2_with (refine Bwd Hd 212 (.tmp 3) Hd w.heap.size Hd 212 _ (0,0) _ P7 Bv2 Hd Tryz.infoPass ?_)
      refine Qm (Ba h1) ?_;intro w8 a1;have c6:=d1.trans (a1.mono g8);have h5:=c6.size;have R8:=stay a1 R7;have Y8:=stay a1 Y7;have h6:=g9.below a1;have h7:=Bb Y8 0;have h8:=Bb Y8 1;simp at h7 h8;obtain⟨f,g⟩:=cl2 R8;obtain⟨q0,q1⟩:=fr2 R8;have lr:=Pk R8;simp at f g;go_wp2_with fail;refine tb (.tuple #[.agg #[.s l m t,.s z B vc],.i 0]) (by simp[results,Byd,go_sem,f,g]) ?_;exact⟨⟨l,m,t,z,B,vc⟩,rfl,h6.set2 R8 _ _,by repeat (first|refine Bvq ?_ Fm _|exact c6)⟩
     have i5:(GV != 0)=true:=by simpa using d2
     have h9:=Bc d2;clear d2;go_wp2_with (refine Bwd Hd 212 (.tmp 3) Hd w.heap.size Hd 212 _ (0,0) _ P7 Bv2 Hd Tryz.infoPass ?_)
     refine Qm (Ba h1) ?_;intro w8 a1;have c6:=d1.trans (a1.mono g8);have h5:=c6.size;have R8:=stay a1 R7;obtain⟨f,g⟩:=cl2 R8;obtain⟨q0,q1⟩:=fr2 R8;have lr:=Pk R8;simp at f g;go_wp2_with fail;refine tb (.tuple #[.agg #[.s none 0 0,.s none 0 0],.i GV]) (by simp[results,Byd,go_sem,f,g]) ?_;exact⟨⟨none,0,0,none,0,0⟩,rfl,fun h=>absurd h (Ba h9),by repeat (first|refine Bvq ?_ Fm _|exact c6)⟩
 rw[Sp h0]at D;have N:=Bc D;have i6:(H != 0)=true:=by simpa using h0
 have f8:A≠0:=by rw[<- D];exact h0
 clear D h0;go_in;go_wp2_with (refine Bwd Hd 212 (.tmp 3) Hd w.heap.size Hd 212 _ (0,0) _ P0 Bv2 Hd Tryz.infoPass ?_)
 refine Qm (Ba HH _ a0) ?_;intro w1 j;have K:=a0.trans (j.mono f4);have c8:=K.size;have I:=stay j R0;obtain⟨f,g⟩:=cl2 I;obtain⟨q0,q1⟩:=fr2 I;have lr:=Pk I;simp at f g;go_wp2_with fail;refine tb (.tuple #[.agg #[.s none 0 0,.s none 0 0],.i H]) (by simp[results,Byd,go_sem,f,g]) ?_;exact⟨⟨none,0,0,none,0,0⟩,by rw[<- Ba N],fun h=>absurd h f8,by repeat (first|refine Bvq ?_ Fm _|exact K)⟩
def Oq (mp:Int->Option Be)(lk:Cd.Ins->Be->Int)(bh:Cd.Ins->Be->Option Be):List Cd.Ins->Option Be->Int × Int
 | [],_=>(0,0)
 | i::r,o=>match (mp i.place).or o with
  | none=>Oq mp lk bh r none
  | some x=>if lk i x≠0 then (lk i x,i.place) else Oq mp lk bh r (if Dz i.op=true then bh i x else none)
def Tp (T:TI)(mp:Int->Option Be)(lk:Cd.Ins->Be->Int)(bh:Cd.Ins->Be->Option Be)(L:List Cd.Ins)(x0:Be):Int × Int :=
 if Iv T mp x0 0=false then (9,0) else Oq mp lk bh L (some x0)
def Bm2(b:PBd)(mp:Int->Option Be)(lk:Cd.Ins->Be->Int)(bh:Cd.Ins->Be->Option Be)(x0:Be)(P:Be->Prop)(bb:Nat)(w:TW)(hl:b.T.length<=1000)(hT:Dl w b.tg b.T)(hM:Ri b mp w)(o5:b.L.length<=100000)(f8:Hs w bb (.s b.la b.L.length b.lc) b.L) (c6:∀f,Bl w f->Calls prog 110 #[.agg #[.i b.cl,.i b.nm,.s b.pa b.pl b.pc,.i b.r1,.i b.r2,.i b.lo,.i b.st,.s b.ca b.cn b.cc,.s b.ha b.hl b.hc,.s b.ma b.ml b.mc]] f fun e b2=>∃u:FrV,e=.returned u.val/\u.is x0 b2/\Bl f b2) (c7:∀i∈b.L,∀(v:FrV) (x:Be) f,Bl w f->v.is x f->P x->Calls prog 186 #[b.pval,.agg #[.i i.place,.i i.op,.i i.n],v.val] f fun e b2=>∃u:FrV,e=.r (.tuple #[u.val,.i (lk i x)])/\(lk i x=0->∃y,bh i x=some y/\u.is y b2/\P y)/\Bl f b2) (f9:P x0)(g0:∀q z,mp q=some z->P z):Calls prog 129 #[b.pval] w fun e f=>e=.r (.agg #[.i (Tp b.T mp lk bh b.L x0).1,.i 0,.i (Tp b.T mp lk bh b.L x0).2])/\Bl w f:=by
 have c8:=fun v x f (h:Bl w f) hv=>Xl b mp v x 0 f hl (hT.below h) (hM.below h) hv;have c9:=fun q f h=>hM q f h;have c0:Hid (∀f,Bl w f->Hs f bb (.s b.la b.L.length b.lc) b.L):=fun f h=>f8.kp (Kp.of_below (e:=none) h) Ck;generalize hR:Tp b.T mp lk bh b.L x0=R;unfold Tp at hR;generalize hL:b.L=LL at *;obtain⟨a3,a4,a5,a6,a7,a8,t,A,ya,yn,yc,B,C,D,F,G,I,J,K,N,O,cn,Q,V,m,Z,ma,ml,mc,la,lc,T,L⟩:=b;simp only at hL;subst hL;unfold Hid at c0;simp only[PBd.pval,FrV.val]at c8 c9 c6 c7 c0 hR ⊢;have k8:=Bc c0;have g1:=Bc c8;have k9:=Bc c9;have g2:=Bc c6;have l0:=Bc c7;have l1:=Bc g0;have HR:=Bc hR;clear c8 c9 c6 c7 g0 hR hT hM f8 c0 hl;have d0:=Bx w (O26 (.p t) T.length A ya yn yc B C D F G I J K N O cn Q V m Z ma ml mc la L.length lc a3 a4 a5 a6 a7 a8 (.p t) T.length A ya yn yc B C D F G I J K N O cn Q V m Z ma ml mc la L.length lc) (O8 0 0 0);have P0:=Cb w (O26 (.p t) T.length A ya yn yc B C D F G I J K N O cn Q V m Z ma ml mc la L.length lc a3 a4 a5 a6 a7 a8 (.p t) T.length A ya yn yc B C D F G I J K N O cn Q V m Z ma ml mc la L.length lc) (O8 0 0 0);have Z0:=Bv w (O26 (.p t) T.length A ya yn yc B C D F G I J K N O cn Q V m Z ma ml mc la L.length lc a3 a4 a5 a6 a7 a8 (.p t) T.length A ya yn yc B C D F G I J K N O cn Q V m Z ma ml mc la L.length lc) (O8 0 0 0);go_in
 go_upto_region 1 with fail
 generalize hW:(w.alloc (O26 (.p t) T.length A ya yn yc B C D F G I J K N O cn Q V m Z ma ml mc la L.length lc a3 a4 a5 a6 a7 a8 (.p t) T.length A ya yn yc B C D F G I J K N O cn Q V m Z ma ml mc la L.length lc)).alloc (O8 0 0 0)=W0 at *;clear hW;obtain⟨m0,m1,m2,m3,m4,m5,m6,m7,m8,m9,g3,g4,b3,g5,g6,g7,g8,g9,h0,h1,h2,h3,h4,h5,h6,h7,h8,h9⟩:=Bq7 P0;simp at m0 m1 m2 m3 m4 m5 m6 m7 m8 m9 g3 g4 b3 g5 g6 g7 g8 g9 h0 h1 h2 h3 h4 h5 h6 h7 h8 h9;go_wp2_with fail;refine(Ba g2 _ d0).mono ?_;rintro e w1 ⟨u,rfl,hu,b4⟩;obtain⟨ua,un,uc,va,vn,vc⟩:=u;have d1:=QB d0 b4;have i3:=d1.size;have P1:=Bk (stay b4 P0) (O24 ua un uc va vn vc);have Z1:=Bk (stay b4 Z0) (O24 ua un uc va vn vc);have Y1:=Bf w1 (O24 ua un uc va vn vc);have o6:=Pk (stay b4 Z0);have b5:=d1.alloc i3 (O24 ua un uc va vn vc);have i4:=b5.size;have a9:=hu.below (QN (O24 ua un uc va vn vc));clear b4 hu P0 Z0 m0 m1 m2 m3 m4 m5 m6 m7 m8 m9 g3 g4 b3 g5 g6 g7 g8 g9 h0 h1 h2 h3 h4 h5 h6 h7 h8 h9;have d2:=Ba g1 ⟨ua,un,uc,va,vn,vc⟩ x0 _ b5 a9;simp only at d2;have c:=Ba HR;generalize Iv T mp x0 0=FA at *;have d3:=Bc d2;clear d2 g1 HR;cases FA with
 | false =>
  rw[Sp rfl]at c;obtain rfl:=c;go_wp2_with (refine Bwd Hd 212 (.tmp 1) Hd w.heap.size Hd 212 _ (0,0) _ P1 Bv2 Hd Tryz.infoPass ?_)
  refine Qm (Ba d3) ?_;intro w3 a1;have c1:=b5.trans (a1.mono i4);have Z3:=stay a1 Z1;obtain⟨z0,z1,z2⟩:=cl3 Z3;simp at z0 z1 z2;obtain⟨q0,q1,q2⟩:=fr3 Z3;have lr:=Pk Z3;go_wp2_with fail;refine tb (.agg #[.i 9,.i 0,.i 0]) (by simp[results,B0g,go_sem,z0,z1,z2]) ?_;exact⟨rfl,by repeat (first|refine Bvq ?_ Fr _|exact c1)⟩
 | true =>
  rw[Pf Fr]at c;have HA:Hid (Oq mp lk bh (L.drop 0) (some x0)=R):=c;clear c;go_wp2_with (refine Bwd Hd 212 (.tmp 1) Hd w.heap.size Hd 212 _ (0,0) _ P1 Bv2 Hd Tryz.infoPass ?_)
  refine Qm (Ba d3) ?_;intro w3 a1;have c1:=b5.trans (a1.mono i4);have P3:=stay a1 P1;have Z3:=stay a1 Z1;have Y3:=stay a1 Y1;have i5:=a9.below a1;have b3:=Bb P3 12;simp at b3;clear a1 P1 Z1 Y1 a9 b5 d3;go_wp2
  go_loopw [4,22] (fun s4 l2 wr=>∃(q:Nat) (o:Option Be) (u:FrV),q<=L.length/\s4=.bool o.isSome/\l2=.i (q:Int)/\Hid (Oq mp lk bh (L.drop q) o=R) /\
    wr.heap[w1.heap.size]?=some (O24 u.la u.ln u.lc u.sa u.sn u.sc)/\(∀x,o=some x->u.is x wr/\P x) /\
    Bl w wr/\wr.heap[w.heap.size]?=some (O26 (.p t) T.length A ya yn yc B C D F G I J K N O cn Q V m Z ma ml mc la L.length lc a3 a4 a5 a6 a7 a8 (.p t) T.length A ya yn yc B C D F G I J K N O cn Q V m Z ma ml mc la L.length lc)/\wr.heap[w.heap.size+1]?=some (O8 0 0 0))
   (fun _ v _=>L.length-(intOf v).toNat)
  case atStart=>exact⟨0,some x0,⟨ua,un,uc,va,vn,vc⟩,Bd,rfl,rfl,HA,Y3,fun x hx=>(by obtain rfl:=Option.some.inj hx;exact⟨i5,f9⟩),c1,P3,Z3⟩
  case round=>
   clear HA P3 Z3 Y3 i5 c1 b3 d1 i3 d0 f9 g2;obtain⟨q,o,u,hq,rfl,rfl,HA,Y,hu,hB,CP,CZ⟩:=hrel;obtain⟨ua,un,uc,va,vn,vc⟩:=u;simp only at Y;have l3:=hB.size;by_cases d4:q<L.length
   ·obtain⟨g,hg,o7,_,c2⟩:=Cf (Ba k8 _ hB) Bd;obtain⟨t1,t2,t3,t4⟩:=W4 L q d4;have y0:=(c2 (q*3) Bd).trans t1;have y1:=(c2 (q*3+1) Bd).trans t2;have y2:=(c2 (q*3+2) Bd).trans t3;have l4:=Bvh d4;have hd:L.drop q=L[q]::L.drop (q+1):=Wr d4;have c:=Ba HA;rw[hd,Oq]at c;generalize L[q]=l5 at *;obtain⟨j,l,ix⟩:=l5;simp only at y0 y1 y2 c;subst hg;have kb:(q:Int)<(L.length:Int):=Bd;have d5:=Ba l0 ⟨j,l,ix⟩ l4;have i6:=Ba l1 j;have i7:=fun f h=>Ba k9 j f h;have i8:=fun f=>Yw l f;simp only at d5;generalize mp j=c3 at *;have l6:=Bc d5;have i9:=Bc i7;have l7:=Bc i8;have b6:=Bc c;have d6:=hB.alloc l3 (O15 j l ix);have d7:=Bk CP (O15 j l ix);have j2:=Bk CZ (O15 j l ix);have j3:=Bf wr (O15 j l ix);have j4:=Bk Y (O15 j l ix);clear d5 i7 i8 hd c2 c HA t1 t2 t3 t4;go_wp2_with (refine Bwd Hd 212 (.tmp 1) Hd w.heap.size Hd 212 _ (0,0) _ d7 Bv2 Hd Tryz.infoPass ?_)
    refine(Ba i9 _ d6).mono ?_;rintro e w4 ⟨u2,rfl,a9,a2⟩;obtain⟨l8,l9,n0,n1,n2,n3⟩:=u2;have c4:=QB d6 a2;have j5:=c4.size;have d8:=stay a2 d7;have d9:=stay a2 j2;have c5:=stay a2 j3;have X4:=stay a2 j4;have lI:=Pk Y;have b0:=Bb X4 0;have b1:=Bb X4 1;obtain⟨p0,p1⟩:=fr2 X4;have lX:=Pk X4;have n4:=Pk c5;simp at b0 b1
    go_upto_if 33 with fail
    go_cut [4] from 23 to 54 (fun s4 wx=>∃u':FrV,s4=.bool (c3.or o).isSome/\wx.heap[w1.heap.size]?=some (O24 u'.la u'.ln u'.lc u'.sa u'.sn u'.sc)/\(∀x,c3.or o=some x->u'.is x wx/\P x) /\
     Bl w wx/\wx.heap[w.heap.size]?=some (O26 (.p t) T.length A ya yn yc B C D F G I J K N O cn Q V m Z ma ml mc (.p g) L.length lc a3 a4 a5 a6 a7 a8 (.p t) T.length A ya yn yc B C D F G I J K N O cn Q V m Z ma ml mc (.p g) L.length lc)/\wx.heap[w.heap.size+1]?=some (O8 0 0 0)/\wx.heap[wr.heap.size]?=some (O15 j l ix))
    case first=>
     cases c3 with
     | none =>
      go_wp2
      go_meet
      case rel=>exact⟨⟨ua,un,uc,va,vn,vc⟩,rfl,Bk X4 _,fun x hx=>⟨(((hu x hx).1.below (QN _)).below a2).below (QN _),(hu x hx).2⟩,c4.alloc j5 _,Bk d8 _,Bk d9 _,Bk c5 _⟩
     | some z =>
      have n5:=i6 z rfl;go_wp2
      go_meet
      case rel=>exact⟨⟨l8,l9,n0,n1,n2,n3⟩,rfl,Bk (Rp X4 _ _) _,fun x hx=>(by obtain rfl:=Option.some.inj hx;exact⟨(a9.set2 X4 _ _).below (QN _),n5⟩),((c4.setCell Fm _).setCell Fm _).alloc Fm _,Bk ((On Bd).trans d8) _,Bk ((On Bd).trans d9) _,Bk ((On Bd).trans c5) _⟩
    case rest=>
     obtain⟨u3,rfl,X5,j6,b7,P5,Z5,I5⟩:=hcut;obtain⟨j7,j8,j9,k0,k2,k3⟩:=u3;simp only at X5;have k4:=b7.size;have o8:=Pk X5;have c:=Ba b6;clear d8 d9 c5 X4 b0 b1 p0 p1 lX n4 a9 hu a2 c4 j5 d7 j2 j3 j4 CP CZ Y d6 b6 y0 y1 y2 i6 i9;generalize c3.or o=o1 at *;cases o1 with
     | none =>
      have HG:Hid (Oq mp lk bh (L.drop (q+1)) none=R):=c;clear c;go_wp2;go_roundw
      case rel=>exact⟨q+1,none,⟨j7,j8,j9,k0,k2,k3⟩,Bd,rfl,Lt,HG,X5,fun x hx=>(by cases hx),b7,P5,Z5⟩
      case measure=>simp[intOf];omega
     | some x =>
      obtain⟨k5,n6⟩:=j6 x rfl;have f0:=Ba l6 ⟨j7,j8,j9,k0,k2,k3⟩ x _ b7 k5 n6;simp only at c f0;have f1:∀y,bh ⟨j,l,ix⟩ x=some y->(if Dz l=true then bh ⟨j,l,ix⟩ x else none)=if Dz l=true then some y else none:=fun y hy=>by rw[hy]
      generalize lk ⟨j,l,ix⟩ x=LV at *;have k6:=Bc f0;clear f0 j6;have b0:=Bb X5 0;have b1:=Bb X5 1;obtain⟨i0,i1,i2⟩:=cl3 I5;simp at b0 b1 i0 i1 i2;by_cases b8:LV=0
      ·rw[Pf (by simpa using b8)]at c;have b6:=Bc c;subst b8;clear c;go_wp2_with (refine Bwd Hd 212 (.tmp 1) Hd w.heap.size Hd 212 _ (0,0) _ P5 Bv2 Hd Tryz.infoPass ?_)
       refine(Ba k6).mono ?_;rintro e w6 ⟨u6,rfl,n7,a0⟩;obtain⟨y,hy,n8,n9⟩:=n7 (by trivial);obtain⟨f2,f3,f4,f5,f6,f7⟩:=u6;have c:=Ba b6;rw[f1 y hy]at c;have b9:=b7.trans (a0.mono k4);have o0:=b9.size;have P6:=stay a0 P5;have Z6:=stay a0 Z5;have I6:=stay a0 I5;have X6:=stay a0 X5;have o2:=Bb X6 0;have o3:=Bb X6 1;obtain⟨e0,e1⟩:=fr2 X6;have o9:=Pk X6;have j1:=Bb I6 1;have o4:=Pk I6;simp at o2 o3 j1;clear f1 hy b0 b1 i0 i1 i2 a0 P5 Z5 I5 X5 k5 b6;have k7:=Bc c;clear c;have I7:((w6.setCell (.a w1.heap.size 0) (.s f2 f3 f4)).setCell (.a w1.heap.size 1) (.s f5 f6 f7)).heap[wr.heap.size]?=some (O15 j l ix):=(On Bd).trans I6;have k1:=Bb I7 1;have p2:=Pk I7;simp at k1;go_wp2_with fail;refine Qm (Ba l7 _) ?_;rintro w7 rfl;have c:=Ba k7;generalize Dz l=gi at *;cases gi
       all_goals
        have HG:=Bc c;clear c k7;go_wp2;go_roundw
        case rel=>exact⟨q+1,_,⟨f2,f3,f4,f5,f6,f7⟩,Bd,rfl,Lt,HG,Bk (Rp X6 _ _) _,fun x hx=>(by first|(cases hx;done)|(obtain rfl:=Option.some.inj hx;exact⟨(n8.set2 X6 _ _).below (QN _),n9⟩)),((b9.setCell Fm _).setCell Fm _).alloc Fm _,Bk ((On Bd).trans P6) _,Bk ((On Bd).trans Z6) _⟩
        case measure=>simp[intOf];omega
      rw[Sp b8]at c;have m:(LV != 0)=true:=by simpa using b8
      obtain rfl:=c;clear b8 f1;go_wp2_with (refine Bwd Hd 212 (.tmp 1) Hd w.heap.size Hd 212 _ (0,0) _ P5 Bv2 Hd Tryz.infoPass ?_)
      refine(Ba k6).mono ?_;rintro e w6 ⟨u6,rfl,-,a0⟩;obtain⟨f2,f3,f4,f5,f6,f7⟩:=u6;have b9:=b7.trans (a0.mono k4);have o0:=b9.size;have Z6:=stay a0 Z5;have I6:=stay a0 I5;have j0:=Bb I6 0;have o4:=Pk I6;simp at j0;obtain⟨z0,z1,z2⟩:=cl3 Z6;simp at z0 z1 z2;obtain⟨q0,q1,q2⟩:=fr3 Z6;have lr:=Pk Z6;clear b0 b1 i0 i1 i2 a0;go_wp2_with fail;refine tb (.agg #[.i LV,.i 0,.i j]) (by simp[results,B0g,go_sem,z0,z1,z2,lr]) ?_;exact⟨rfl,by repeat (first|refine Bvq ?_ Fr _|refine Bwu ?_ (by first|omega|(simp;omega)) _|exact b9)⟩
   have c:=Ba HA;rw[Bvi Bd,Oq]at c;obtain rfl:=c;have kb:¬(q:Int)<(L.length:Int):=Bd;obtain⟨z0,z1,z2⟩:=cl3 CZ;simp at z0 z1 z2;obtain⟨q0,q1,q2⟩:=fr3 CZ;have lr:=Pk CZ;clear HA;go_wp2_with fail;refine tb (.agg #[.i 0,.i 0,.i 0]) (by simp[results,B0g,go_sem,z0,z1,z2]) ?_;exact⟨rfl,by repeat (first|refine Bvq ?_ Fr _|exact hB)⟩
def Bgh(b:PBd)(w:TW):Calls prog 109 #[.agg #[.s b.fa1 b.fl1 b.fc1,.s b.fa2 b.fl2 b.fc2],.agg #[.s (.p b.tg) b.T.length b.tc,.s b.ya b.yn b.yc],.agg #[.i b.cl,.i b.nm,.s b.pa b.pl b.pc,.i b.r1,.i b.r2,.i b.lo,.i b.st,.s b.ca b.cn b.cc,.s b.ha b.hl b.hc,.s b.ma b.ml b.mc],.s b.la b.L.length b.lc] w fun e c => e=.returned b.val/\Bl w c:=by
 obtain⟨f,g,h,j,l,m,q,t,ya,yn,yc,v,z,A,B,C,D,F,G,I,J,cn,K,N,O,Q,V,Y,Z,la,lc,T,L⟩:=b;simp only[PBd.val];go_in;go_wp2;refine tb (.agg #[.s f g h,.s j l m,.s (.p q) T.length t,.s ya yn yc,.i v,.i z,.s A B C,.i D,.i F,.i G,.i I,.s J cn K,.s N O Q,.s V Y Z,.s la L.length lc]) (by simp[results,results109,go_sem]) ?_;exact⟨rfl,Mq _ _ _ _ _⟩
def Fs (FR:Rd.Mth->Int × Int):Nat->List Rd.Mth->Int × Int × Int
 | _,[]=>(0,0,0)
 | k,m::r=>if (FR m).1≠0 then ((FR m).1,(k:Int),(FR m).2) else Fs FR (k+1) r
theorem Ek{w:World}{s j:Nat}{l b e f:Option Addr}{K g h i m p q t:Nat}{B v z A C:Int}{D F G I:Option Addr}{J L cn N O Q V Y:Nat}(hF:w.heap[u]?=some (O1 l K g b h i))(Z:w.heap[s]?=some (O2 e m p f q t))(hM:w.heap[j]?=some (O18 c B D J L v z A C F cn N G O Q I V Y)):(w.cell? ⟨u,0,none⟩=some (.slice l K g)/\w.cell? ⟨u,1,none⟩=some (.slice b h i))/\(w.cell? ⟨s,0,none⟩=some (.slice e m p)/\w.cell? ⟨s,1,none⟩=some (.slice f q t))/\w.cell? ⟨j,0,none⟩=some (.int .i64 c)/\w.cell? ⟨j,1,none⟩=some (.int .i64 B)/\w.cell? ⟨j,2,none⟩=some (.slice D J L)/\w.cell? ⟨j,3,none⟩=some (.int .i64 v)/\w.cell? ⟨j,4,none⟩=some (.int .i64 z)/\w.cell? ⟨j,5,none⟩=some (.int .i64 A)/\w.cell? ⟨j,6,none⟩=some (.int .i64 C)/\w.cell? ⟨j,7,none⟩=some (.slice F cn N)/\w.cell? ⟨j,8,none⟩=some (.slice G O Q)/\w.cell? ⟨j,9,none⟩=some (.slice I V Y):=by
 refine⟨⟨?_,?_⟩,⟨?_,?_⟩,?_,?_,?_,?_,?_,?_,?_,?_,?_,?_⟩
 all_goals first|(rw[Bb hF];rfl)|(rw[Bb Z];rfl)|(rw[Bb hM];rfl)
def Fv{P:Program}{e:Array Oper}{o:Oper}{a:Act}{K:Act->TW->Prop}{Q:Exit->Act->TW->Prop}{E:Prop}(f:o.guard=none)(ty:TypeId)(x y:Operand)(i:o.op=.store ty x y) (g:Nat)(b:Array Value)(j:a.eval x=.q g 0)(l:a.eval y=.agg b)(t:TypeId)(c:Array Value)(m:w.heap[g]?=some (.cells c t (0,0)))(p:(P.info? ty).map (·.size)=some b.size) (s:c.size=b.size)(v:b.all (·.oneCell')=true)(h:K (a.put o.dst undef) (w.setRow g b)):if Region.wanted o (yielded e a.tmps)=true then Oper.wp P o a w K Q else E:=by
 have z:Region.wanted o (yielded e a.tmps)=true:=by simp[Region.wanted,f]
 rw[Sp z];exact wp_store_row ty x y i g b j l t c m p s v h
def Nt{s:Nat}{v:TW}(b:Below u v w)(f:u<=s)(c:Array Value):Below u v (w.setRow s c) :=
 ⟨b.os,b.tape,b.output,by rw[B0l];exact b.size,fun k e=>(Bz5 w s k c Bd).trans (b.block k e)⟩
def Li{G b:Array Value}{g:TypeId}(c:w.heap[u]?=some (.cells G g (0,0))):(w.setRow u b).heap[u]?=some (.cells b g (0,0)):=B05 w u G b g (0,0) c
def Ce{G:Array Value}(h:k≠u):(w.setRow u G).heap[k]?=w.heap[k]?:=Bz5 w u k G h
def Bm4(a3 a6:TA)(a4 a5 a2 bm:Nat)(a9:List (Rd.Cls×Value))(c:List (Rd.Mth×Eh))(FR:Rd.Mth->Int×Int)(w:TW)(g7:a9.length<=6)(c9:Ex w bm (.s a3 a4 a5) a9)(i6:c.length<=1000)(d0:Eb w bm (.s a6 c.length a2) c) (d1:∀p∈c,p.1.code.length<=1000/\∀x∈p.1.code,0<=x) (d2:∀p∈c,∀(b:PBd) bb f,Bl w f->b.fa1=a3->b.fl1=a4->b.fc1=a5->b.fa2=a6->b.fl2=c.length->b.fc2=a2->b.T=Tr.tree (a9.map Prod.fst)->b.L=Cd.readL p.1.code->Dl f b.tg b.T->f.ownsRow w.heap.size 105 1 (.s b.ya b.yn b.yc) (7+a9.length) (Tr.fvals a9)->(⟨b.cl,b.nm,b.pa,b.pl,b.pc,b.r1,b.r2,b.lo,b.st,b.ca,b.cn,b.cc,b.ha,b.hl,b.hc,b.ma,b.ml,b.mc⟩:PM).is p.1 f bm->Hs f bb (.s b.la b.L.length b.lc) b.L->Calls prog 129 #[b.pval] f fun e g8=>e=.r (.agg #[.i (FR p.1).1,.i 0,.i (FR p.1).2])/\Bl f g8):Calls prog 80 #[.agg #[.s a3 a4 a5,.s a6 c.length a2]] w fun e f=>e=.r (.agg #[.i (Fs FR 0 (c.map Prod.fst)).1,.i (Fs FR 0 (c.map Prod.fst)).2.1,.i (Fs FR 0 (c.map Prod.fst)).2.2])/\Bl w f:=by
 have d3:=fun f (h:Bl w f)=>Sn a3 a6 a4 a5 c.length a2 bm a9 f g7 (c9.kp (Kp.of_below (e:=none) h) Ck Ck);have g9:Hid (∀f,Bl w f->Eb f bm (.s a6 c.length a2) c):=fun f h=>d0.kp (Kp.of_below (e:=none) h) Ck Ck Ck Ck Ck;generalize hR:Fs FR 0 (c.map Prod.fst)=R;have HR:Hid (Fs FR 0 ((c.map Prod.fst).drop 0)=R):=hR;have h1:=Bc d3;have h2:=Bc d2;have h3:=Bc d1;clear d3 d2 d1 hR c9 d0;have d4:=Bx w (O1 a3 a4 a5 a6 c.length a2) (O8 0 0 0);have F0:=Cb w (O1 a3 a4 a5 a6 c.length a2) (O8 0 0 0);have Z0:=Bv w (O1 a3 a4 a5 a6 c.length a2) (O8 0 0 0);have h4:((w.alloc (O1 a3 a4 a5 a6 c.length a2)).alloc (O8 0 0 0)).heap.size=w.heap.size+2:=Fr;go_in;go_wp2_with fail;refine(Ba h1 _ d4).mono ?_;rintro e w1 ⟨v,tc,ya,yn,yc,rfl,d5,d6,i7,b6⟩;generalize Tr.tree (a9.map Prod.fst)=T at *;have c1:=QB d4 b6;have d7:=c1.size;have lZ:=Pk (stay b6 Z0);have F1:=Bk (stay b6 F0) (O2 (.p v) T.length tc ya yn yc);have Z1:=Bk (stay b6 Z0) (O2 (.p v) T.length tc ya yn yc);have T1:=Bf w1 (O2 (.p v) T.length tc ya yn yc);have b5:=c1.alloc d7 (O2 (.p v) T.length tc ya yn yc);have d8:=d5.below (QN (O2 (.p v) T.length tc ya yn yc));have d9:=Ti (Cx d6 (Kp.of_below (e:=none) (QN (O2 (.p v) T.length tc ya yn yc))) Ck) (show w.heap.size<=_ by rw[h4];omega);clear b6 F0 Z0 d5 d6;have f1:=Bb F1 1;simp at f1;go_wp2
 go_loopw [16] (fun s wr=>∃q:Nat,q<=c.length/\s=.i (q:Int)/\Hid (Fs FR q ((c.map Prod.fst).drop q)=R)/\Bl w wr/\wr.heap[w.heap.size]?=some (O1 a3 a4 a5 a6 c.length a2)/\wr.heap[w.heap.size+1]?=some (O8 0 0 0)/\wr.heap[w1.heap.size]?=some (O2 (.p v) T.length tc ya yn yc)/\Dl wr v T/\wr.ownsRow w.heap.size 105 1 (.s ya yn yc) (7+a9.length) (Tr.fvals a9))
  (fun s _=>c.length-(intOf s).toNat)
 case atStart=>exact⟨0,Bd,rfl,HR,b5,F1,Z1,T1,d8,d9⟩
 case round=>
  clear HR b5 F1 Z1 T1 d8 d9 f1 c1 d7;obtain⟨q,hq,rfl,HR,hB,CF,CZ,CT,h5,h6⟩:=hrel;have h7:=hB.size;by_cases b9:q<c.length
  ·obtain⟨m,g,hg,i8,Et,hm,-⟩:=(Ba g9 _ hB).mth2 b9;obtain⟨y0,y1,y2,y3,y4,y5,y6,y7,y8,y9⟩:=Ub Et;have hd:(c.map Prod.fst).drop q=c[q].1::(c.map Prod.fst).drop (q+1):=by rw[Wr (by simpa using b9)];simp
   have hr:=Ba HR;rw[hd,Fs]at hr;have b3:=Ba h2 c[q] (Bvh b9);obtain⟨h8,h9⟩:=Ba h3 c[q] (Bvh b9);generalize c[q].1=x at *;have kb:(q:Int)<(c.length:Int):=Bd;have f0:=hm.cn;obtain⟨z,A,B,D,F,G,I,J,N,j,cn,l,O,Q,V,Y,Z,mc⟩:=m;simp only at y0 y1 y2 y3 y4 y5 y6 y7 y8 y9 f0;subst f0;have i0:=hB.alloc h7 (O18 z A B D F G I J N j x.code.length l O Q V Y Z mc);have f2:=Ap x.code j l bm (wr.alloc (O18 z A B D F G I J N j x.code.length l O Q V Y Z mc)) h8 h9 ((hm.below (QN (O18 z A B D F G I J N j x.code.length l O Q V Y Z mc))).code);have f3:=Bc f2;have f4:=Bc b3;have f5:=Bc hr;have f6:=Bk CF (O18 z A B D F G I J N j x.code.length l O Q V Y Z mc);have f7:=Bk CZ (O18 z A B D F G I J N j x.code.length l O Q V Y Z mc);have f8:=Bk CT (O18 z A B D F G I J N j x.code.length l O Q V Y Z mc);have f9:=Bf wr (O18 z A B D F G I J N j x.code.length l O Q V Y Z mc);subst hg;clear f2 b3 hr hd Et HR;go_wp2_with fail;refine(Ba f3).mono ?_;rintro e t ⟨la,lc,rfl,g0,b2⟩;have b5:=QB i0 b2;have i1:=b5.size;have b0:=stay b2 f6;have g1:=stay b2 f7;have a7:=stay b2 f8;have b1:=stay b2 f9;have i2:=Pk b1;have i3:=Pk a7;have c2:=fun w=>Bgh ⟨a3,a4,a5,some ⟨g,0,none⟩,c.length,a2,v,tc,ya,yn,yc,z,A,B,D,F,G,I,J,N,j,x.code.length,l,O,Q,V,Y,Z,mc,la,lc,T,Cd.readL x.code⟩ w;simp only[PBd.val]at c2;have c3:=Bc c2;clear c2 f6 f7 f8 f9
   go_upto_region 6 with fail
   go_cut [9] from 17 to 45 (fun s9 wx=>∃pb,s9=.q pb 0/\wx.heap[pb]?=some (O26 (.p v) T.length tc ya yn yc z A B D F G I J N j x.code.length l O Q V Y Z mc la (Cd.readL x.code).length lc a3 a4 a5 (.p g) c.length a2 (.p v) T.length tc ya yn yc z A B D F G I J N j x.code.length l O Q V Y Z mc la (Cd.readL x.code).length lc)/\Bl t wx)
   case first=>
    go_wp2;refine Bvz (S:=(fun f=>(f.C w.heap.size 0 (.s a3 a4 a5)/\f.C w.heap.size 1 (.s (.p g) c.length a2))/\(f.C w1.heap.size 0 (.s (.p v) T.length tc)/\f.C w1.heap.size 1 (.s ya yn yc))/\f.C wr.heap.size 0 (.i z)/\f.C wr.heap.size 1 (.i A)/\f.C wr.heap.size 2 (.s B D F)/\f.C wr.heap.size 3 (.i G)/\f.C wr.heap.size 4 (.i I)/\f.C wr.heap.size 5 (.i J)/\f.C wr.heap.size 6 (.i N)/\f.C wr.heap.size 7 (.s j x.code.length l)/\f.C wr.heap.size 8 (.s O Q V)/\f.C wr.heap.size 9 (.s Y Z mc))) Le (Ek b0 a7 b1) (fun a0=>?_);refine tq 0 (.agg #[.s (.p v) T.length tc,.s ya yn yc]) a0 ?_;refine tq 1 (.agg #[.i z,.i A,.s B D F,.i G,.i I,.i J,.i N,.s j x.code.length l,.s O Q V,.s Y Z mc]) a0 ?_;refine tq 2 (.s la (Cd.readL x.code).length lc) a0 ?_;refine tq 3 (.agg #[.s a3 a4 a5,.s (.p g) c.length a2]) a0 ?_;refine tq 4 (.agg #[.s (.p v) T.length tc,.s ya yn yc]) a0 ?_;refine tq 5 (.agg #[.i z,.i A,.s B D F,.i G,.i I,.i J,.i N,.s j x.code.length l,.s O Q V,.s Y Z mc]) a0 ?_;refine tq 6 (.s la (Cd.readL x.code).length lc) a0 ?_;refine Bw7 (rs:=[7,9]) Le Fr ?_;refine Bv3 (o:=⟨_,_,_,_,_,_⟩) rfl (fun K hK=>?_) (Bv3 (o:=⟨_,_,_,_,_,_⟩) rfl (fun K hK=>?_) Bw2)
    ·go_simp;refine Qm (Ba c3 _) ?_;intro w5 a1;have c4:t.heap.size<=w5.heap.size:=a1.size
     try dsimp only
     clear a0;refine hK.out _ _ (Ek (by exact stay a1 (show t.drew.heap[_]?=_ from b0)) (by exact stay a1 (show t.drew.heap[_]?=_ from a7)) (by exact stay a1 (show t.drew.heap[_]?=_ from b1))) (fun a0=>?_);clear hK K
     try simp only[QX]
     refine tq 8 (.agg #[.s (.p v) T.length tc,.s ya yn yc,.i z,.i A,.s B D F,.i G,.i I,.i J,.i N,.s j x.code.length l,.s O Q V,.s Y Z mc,.s la (Cd.readL x.code).length lc,.s a3 a4 a5,.s (.p g) c.length a2,.s (.p v) T.length tc,.s ya yn yc,.i z,.i A,.s B D F,.i G,.i I,.i J,.i N,.s j x.code.length l,.s O Q V,.s Y Z mc,.s la (Cd.readL x.code).length lc]) a0 ?_;refine tr 9 fun K hK=>?_;go_simp;clear a0;refine hK.out _ _ (Ek (by exact Bk (stay a1 (show t.drew.heap[_]?=_ from b0)) _) (by exact Bk (stay a1 (show t.drew.heap[_]?=_ from a7)) _) (by exact Bk (stay a1 (show t.drew.heap[_]?=_ from b1)) _)) (fun a0=>?_);clear hK K
     try simp only[QX]
     have b7:=Bf w5 (O26 none 0 0 none 0 0 0 0 none 0 0 0 0 0 0 none 0 0 none 0 0 none 0 0 none 0 0 none 0 0 none 0 0 none 0 0 none 0 0 0 0 none 0 0 0 0 0 0 none 0 0 none 0 0 none 0 0 none 0 0);refine tr 10 fun K hK=>?_;refine Fv Hd 212 _ _ Hd w5.heap.size #[.s (.p v) T.length tc,.s ya yn yc,.i z,.i A,.s B D F,.i G,.i I,.i J,.i N,.s j x.code.length l,.s O Q V,.s Y Z mc,.s la (Cd.readL x.code).length lc,.s a3 a4 a5,.s (.p g) c.length a2,.s (.p v) T.length tc,.s ya yn yc,.i z,.i A,.s B D F,.i G,.i I,.i J,.i N,.s j x.code.length l,.s O Q V,.s Y Z mc,.s la (Cd.readL x.code).length lc] Hd Hd 212 _ b7 Tryz.infoPass Hd (by simp[Value.oneCell']) ?_;clear a0;refine hK.out _ _ (Ek ((Ce Bd).trans (Bk (stay a1 (show t.drew.heap[_]?=_ from b0)) _)) ((Ce Bd).trans (Bk (stay a1 (show t.drew.heap[_]?=_ from a7)) _)) ((Ce Bd).trans (Bk (stay a1 (show t.drew.heap[_]?=_ from b1)) _))) (fun a0=>?_);clear hK K
     try simp only[Act.put]
     refine Bv9 Le ?_ _;go_wp2
     go_meet
     case rel=>exact⟨w5.heap.size,rfl,Li b7,Nt (((Vm _ _).drew.trans a1).alloc c4 _) c4 _⟩
    go_simp;clear a0;refine hK.out _ _ (Ek (by exact Bk (show t.drew.heap[_]?=_ from b0) _) (by exact Bk (show t.drew.heap[_]?=_ from a7) _) (by exact Bk (show t.drew.heap[_]?=_ from b1) _)) (fun a0=>?_);clear hK K
    try simp only[QX]
    refine tr 7 fun K hK=>?_;go_simp;refine Qm (Ba c3 _) ?_;intro w5 a1;have c4:t.heap.size+1<=w5.heap.size:=by have:=a1.size;simp at this;exact this
    try dsimp only
    clear a0;refine hK.out _ _ (Ek (by exact stay a1 (Bk (show t.drew.heap[_]?=_ from b0) _)) (by exact stay a1 (Bk (show t.drew.heap[_]?=_ from a7) _)) (by exact stay a1 (Bk (show t.drew.heap[_]?=_ from b1) _))) (fun a0=>?_);clear hK K
    try simp only[QX]
    refine tq 8 (.agg #[.s (.p v) T.length tc,.s ya yn yc,.i z,.i A,.s B D F,.i G,.i I,.i J,.i N,.s j x.code.length l,.s O Q V,.s Y Z mc,.s la (Cd.readL x.code).length lc,.s a3 a4 a5,.s (.p g) c.length a2,.s (.p v) T.length tc,.s ya yn yc,.i z,.i A,.s B D F,.i G,.i I,.i J,.i N,.s j x.code.length l,.s O Q V,.s Y Z mc,.s la (Cd.readL x.code).length lc]) a0 ?_;have b7:=stay a1 (Bf t.drew (O26 none 0 0 none 0 0 0 0 none 0 0 0 0 0 0 none 0 0 none 0 0 none 0 0 none 0 0 none 0 0 none 0 0 none 0 0 none 0 0 0 0 none 0 0 0 0 0 0 none 0 0 none 0 0 none 0 0 none 0 0));refine tr 10 fun K hK=>?_;refine Fv Hd 212 _ _ Hd t.heap.size #[.s (.p v) T.length tc,.s ya yn yc,.i z,.i A,.s B D F,.i G,.i I,.i J,.i N,.s j x.code.length l,.s O Q V,.s Y Z mc,.s la (Cd.readL x.code).length lc,.s a3 a4 a5,.s (.p g) c.length a2,.s (.p v) T.length tc,.s ya yn yc,.i z,.i A,.s B D F,.i G,.i I,.i J,.i N,.s j x.code.length l,.s O Q V,.s Y Z mc,.s la (Cd.readL x.code).length lc] Hd Hd 212 _ b7 Tryz.infoPass Hd (by simp[Value.oneCell']) ?_;clear a0;refine hK.out _ _ (Ek ((Ce Bd).trans (stay a1 (Bk (show t.drew.heap[_]?=_ from b0) _))) ((Ce Bd).trans (stay a1 (Bk (show t.drew.heap[_]?=_ from a7) _))) ((Ce Bd).trans (stay a1 (Bk (show t.drew.heap[_]?=_ from b1) _)))) (fun a0=>?_);clear hK K
    try simp only[Act.put]
    refine Bv9 Le ?_ _;go_wp2
    go_meet
    case rel=>exact⟨t.heap.size,rfl,Li b7,Nt ((((Vm _ _).drew).alloc (Wf _) _).trans (a1.mono Fr)) (Wf _) _⟩
   case rest=>
    obtain⟨pb,rfl,CP,b4⟩:=hcut;have c0:=b5.trans (b4.mono i1);have g2:=c0.size;have c5:Bl wr wc:=((QN (O18 z A B D F G I J N j x.code.length l O Q V Y Z mc)).trans (b2.mono Fr)).trans (b4.mono (by have:=b2.size;simp at this;omega));have i4:=stay b4 b0;have c6:=stay b4 g1;have i5:=stay b4 a7;have g3:=g0.kp (Kp.of_below (e:=none) b4) Ck;have g4:=h5.below c5;have g5:=Cx h6 (Kp.of_below (e:=none) c5) Ck;have b3:=Ba f4 ⟨a3,a4,a5,some ⟨g,0,none⟩,c.length,a2,v,tc,ya,yn,yc,z,A,B,D,F,G,I,J,N,j,x.code.length,l,O,Q,V,Y,Z,mc,la,lc,T,Cd.readL x.code⟩ _ wc c0 rfl rfl rfl rfl rfl rfl rfl rfl g4 g5 (hm.below c5) g3;simp only[PBd.pval]at b3;have hr:=Ba f5;generalize FR x=fr at *;obtain⟨c7,fr2⟩:=fr;simp only at b3 hr;have g6:=Bc b3;have i9:=Pk c6;clear b3 f5 f4 f3 c3 b0 g1 a7 b1 g0 b2 b4 b5 hm g3 i2 i3 y0 y1 y2 y3 y4 y5 y6 y7 y8 y9;by_cases h0:c7=0
    ·rw[Pf (by simpa using h0)]at hr;have HG:Hid (Fs FR (q+1) ((c.map Prod.fst).drop (q+1))=R):=hr;subst h0;clear hr;go_wp2_with (refine Bwd Hd 212 (.tmp 9) Hd pb Hd 212 _ (0,0) _ CP Bv2 Hd Tryz.infoPass ?_)
     refine Qm (Ba g6) ?_;intro w7 a8;have b8:=c0.trans (a8.mono g2);go_wp2;go_roundw
     case rel=>exact⟨q+1,Bd,Lt,HG,b8.alloc b8.size _,Bk (stay a8 i4) _,Bk (stay a8 c6) _,Bk (stay a8 i5) _,(g4.below a8).below (QN _),Cx (Cx g5 (Kp.of_below (e:=none) a8) Ck) (Kp.of_below (e:=none) (QN _)) Ck⟩
     case measure=>simp[intOf];omega
    rw[Sp h0]at hr;obtain rfl:=hr;have j0:(c7 != 0)=true:=by simpa using h0
    clear h0;go_wp2_with (refine Bwd Hd 212 (.tmp 9) Hd pb Hd 212 _ (0,0) _ CP Bv2 Hd Tryz.infoPass ?_)
    refine Qm (Ba g6) ?_;intro w7 a8;have b8:=c0.trans (a8.mono g2);have j1:=b8.size;have c8:=stay a8 c6;obtain⟨z0,z1,z2⟩:=cl3 c8;simp at z0 z1 z2;obtain⟨q0,q1,q2⟩:=fr3 c8;have lr:=Pk c8;clear a8;go_wp2_with fail;refine tb (.agg #[.i c7,.i (q:Int),.i fr2]) (by simp[results,results80,go_sem,z0,z1,z2,lr]) ?_;exact⟨rfl,by repeat (first|refine Bvq ?_ Fm _|refine Bvq ?_ Fr _|refine Bwu ?_ (by first|omega|(simp;omega)) _|exact b8)⟩
  have hr:=Ba HR;rw[Bvi Fm,Fs]at hr;obtain rfl:=hr;have kb:¬(q:Int)<(c.length:Int):=Bd;obtain⟨z0,z1,z2⟩:=cl3 CZ;simp at z0 z1 z2;obtain⟨q0,q1,q2⟩:=fr3 CZ;have lr:=Pk CZ;clear HR;go_wp2_with fail;refine tb (.agg #[.i 0,.i 0,.i 0]) (by simp[results,results80,go_sem,z0,z1,z2]) ?_;exact⟨rfl,by repeat (first|refine Bvq ?_ Fr _|exact hB)⟩
def Mb (P V:Int × Int × Int):Int × Int × Int:=if P.1≠0 then P else if V.1≠0 then V else (0,0,0)
theorem Bs2{w:World}{a B:Int}(h:w.heap[k]?=some (O8 a B c)):w.cell? ⟨k,0,none⟩=some (.int .i64 a)/\w.cell? ⟨k,1,none⟩=some (.int .i64 B)/\w.cell? ⟨k,2,none⟩=some (.int .i64 c):=by
 refine⟨?_,?_,?_⟩
 all_goals (rw[Bb h];rfl)
def Bez(s:ByteArray)(V:Int×Int×Int)(w:TW)(hs:s.size<=maxLen) (a5:(Ft s.data.toList).1=0->∀c f j l m p Y t v z,Bl w z->t.map Prod.fst=(Rd.read s.data.toList).1.classes->Ex z Y (.s c f j) t->v.map Prod.fst=(Rd.read s.data.toList).1.methods->Eb z Y (.s l m p) v->Calls prog 80 #[.agg #[.s c f j,.s l m p]] z fun e d7=>e=.r (.agg #[.i V.1,.i V.2.1,.i V.2.2])/\Bl z d7):Calls prog 53 #[.string s] w fun e z=>∃c f j l m p,e=.r (.tuple #[.agg #[.s c f j,.s l m p],.agg #[.i (Mb (Ft s.data.toList) V).1,.i (Mb (Ft s.data.toList) V).2.1,.i (Mb (Ft s.data.toList) V).2.2]])/\((Mb (Ft s.data.toList) V).1=0->∃Y t v,t.map Prod.fst=(Rd.read s.data.toList).1.classes/\Ex z Y (.s c f j) t/\v.map Prod.fst=(Rd.read s.data.toList).1.methods/\Eb z Y (.s l m p) v)/\Bl w z:=by
 have a6:=fun w=>Bdy s w hs;unfold Mb;generalize Ft s.data.toList=P at *;generalize Rd.read s.data.toList=q at *;obtain⟨P1,B,C⟩:=P;obtain⟨V1,V2,V3⟩:=V;simp only at a6 a5 ⊢;have a3:=Bc a6;have a7:=Bc a5;clear a6 a5;have b6:=Bx w (O1 none 0 0 none 0 0) (O8 0 0 0);have C0:=Cb w (O1 none 0 0 none 0 0) (O8 0 0 0);have D0:=Bv w (O1 none 0 0 none 0 0) (O8 0 0 0);by_cases Z:P1=0
 ·subst Z;by_cases h2:V1=0;subst h2;simp only[ne_eq,not_true_eq_false,Bxk]
  rotate_left
  have f2:(V1 != 0)=true:=by simpa using h2
  have d8:=Bc h2;simp only[ne_eq,not_true_eq_false,Bxk,h2,not_false_eq_true,By3];clear h2
  rotate_left
  all_goals
   go_in;go_wp2_with fail;refine(Ba a3 _).mono ?_;rintro e I ⟨c,f,j,l,m,p,rfl,b7,A⟩;obtain⟨t,v,a8,b8,a9,b9⟩:=b7 (by trivial);have a0:=QB b6 A;have c3:=a0.size;have D:=stay A C0;have F:=stay A D0;have f3:=Pk F;have b2:Bl I ((I.alloc (O1 c f j l m p)).alloc (O8 0 B C)):=Bx _ _ _;have c4:=a0.trans (b2.mono c3);have c5:=b8.kp (Kp.of_below (e:=none) b2) Ck Ck;have c6:=b9.kp (Kp.of_below (e:=none) b2) Ck Ck Ck Ck Ck;have c7:=Ba a7 (by trivial) c f j l m p _ t v _ c4 a8 c5 a9 c6;have HF:=Bc c7;have c8:=Cb I (O1 c f j l m p) (O8 0 B C);have a4:=Bv I (O1 c f j l m p) (O8 0 B C);have C2:=Bk (Bk D (O1 c f j l m p)) (O8 0 B C);have D2:=Bk (Bk F (O1 c f j l m p)) (O8 0 B C);have c9:=Bc a8;have d3:=Bc a9;clear c7 a7 a3 A C0 D0 D F b8 b9 a8 a9 b7;go_wp2_with fail;refine Qb (Ba HF) c4 ?_;intro w3 G b3;have f4:=b3.size;have C3:=stay G C2;have D3:=stay G D2;have d4:=stay G c8;have J:=stay G a4;have b4:=c5.kp (Kp.of_below (e:=none) G) Ck Ck;have b5:=c6.kp (Kp.of_below (e:=none) G) Ck Ck Ck Ck Ck;obtain⟨b0,b1⟩:=cl2 d4;obtain⟨k0,k1,k2⟩:=cl3 J;obtain⟨j0,j1,j2⟩:=fr3 J;have lA:=Pk J;have lB:=Pk d4;simp at b0 b1 k0 k1 k2;have K:=Bb C3 0;have L:=Bb C3 1;obtain⟨N,O,Q⟩:=cl3 D3;obtain⟨e0,e1⟩:=fr2 C3;obtain⟨g0,g1,g2⟩:=fr3 D3;have lC:=Pk C3;have lD:=Pk D3;simp at K L N O Q;clear G C2 D2 c8 a4 HF
  ·have K1:=Kp.set (b:=w.heap.size+2) (i:=0) J (.i 0);have K2:=Kp.set (b:=w.heap.size+2) (i:=1) (Bq (i:=0) J (.i 0)) (.i V2);have K3:=Kp.set (b:=w.heap.size+2) (i:=2) (Bq (i:=1) (Bq (i:=0) J (.i 0)) (.i V2)) (.i V3);have KK:=((((((K1.trans K2).trans K3).trans (Kp.set_lo (i:=0) (g:=w.heap.size) Bd (.s c f j))).trans (Kp.set_lo (i:=1) (g:=w.heap.size) Bd (.s l m p))).trans (Kp.set_lo (i:=0) (g:=w.heap.size+1) Bd (.i 0))).trans (Kp.set_lo (i:=1) (g:=w.heap.size+1) Bd (.i 0))).trans (Kp.set_lo (i:=2) (g:=w.heap.size+1) Bd (.i 0));have d5:Ex w3 (w.heap.size+2) (.s c f j) t:=by simpa using b4
   have d6:Eb w3 (w.heap.size+2) (.s l m p) v:=by simpa using b5
   have d9:=d5.kp KK Ck Ck;have f0:=d6.kp KK Ck Ck Ck Ck Ck;clear K1 K2 K3 KK d5 d6 b4 b5;go_wp2_with fail;refine tb (.tuple #[.agg #[.s c f j,.s l m p],.agg #[.i 0,.i 0,.i 0]]) (by simp[results,B0p,go_sem,K,L,N,O,Q]) ?_;exact⟨c,f,j,l,m,p,rfl,fun _=>⟨_,t,v,Ba c9,d9,Ba d3,f0⟩,by repeat (first|(with_reducible exact b3)|(with_reducible refine Bvq ?_ Fm _)|(with_reducible refine Bvq ?_ Fr _))⟩
  clear b4 b5 c9 d3;go_wp2
  go_region
  all_goals
   go_wp2_with fail;refine tb (.tuple #[.agg #[.s none 0 0,.s none 0 0],.agg #[.i V1,.i V2,.i V3]]) (by simp[results,B0p,go_sem,K,L,N,O,Q]) ?_;exact⟨none,0,0,none,0,0,rfl,fun h=>(by first|exact False.elim h|exact absurd h (Ba d8)),by repeat (first|(with_reducible exact b3)|(with_reducible refine By2 ?_)|(with_reducible refine Bvq ?_ Fm _)|(with_reducible refine Bvq ?_ Fr _))⟩
 have f5:(P1 != 0)=true:=by simpa using Z
 have f1:=Bc Z;simp only[ne_eq,Z,not_false_eq_true,By3];go_in;go_wp2_with fail;refine(Ba a3 _).mono ?_;rintro e I ⟨c,f,j,l,m,p,rfl,-,A⟩;have a0:=QB b6 A;have c3:=a0.size;have D:=stay A C0;have F:=stay A D0;have K:=Bb D 0;have L:=Bb D 1;obtain⟨N,O,Q⟩:=cl3 F;obtain⟨e0,e1⟩:=fr2 D;obtain⟨g0,g1,g2⟩:=fr3 F;have lC:=Pk D;have lD:=Pk F;simp at K L N O Q;have a4:=Bf (I.alloc (O1 c f j l m p)) (O8 P1 B C);have s0:=Bs2 a4;clear Z a7 a3 A;go_wp2
 go_region
 all_goals
  go_wp2_with fail;refine tb (.tuple #[.agg #[.s none 0 0,.s none 0 0],.agg #[.i P1,.i B,.i C]]) (by simp[results,B0p,go_sem,K,L,N,O,Q,lC,lD]) ?_;exact⟨none,0,0,none,0,0,rfl,fun h=>(by first|exact False.elim h|exact absurd h (Ba f1)),by repeat (first|(with_reducible exact a0)|(with_reducible refine By2 ?_)|(with_reducible refine Bwu ?_ Fm _)|(with_reducible refine Bvq ?_ Fr _))⟩
def Bo4(s:ByteArray)(V:Int×Int×Int)(w:TW)(A:s.size<=maxLen) (q:(Ft s.data.toList).1=0->∀c f g h j l t v z b,Bl w b->v.map Prod.fst=(Rd.read s.data.toList).1.classes->Ex b t (.s c f g) v->z.map Prod.fst=(Rd.read s.data.toList).1.methods->Eb b t (.s h j l) z->Calls prog 80 #[.agg #[.s c f g,.s h j l]] b fun e B=>e=.r (.agg #[.i V.1,.i V.2.1,.i V.2.2])/\Bl b B):Calls prog 20 #[.string s] w fun e b=>e=.r (.tuple #[.i (Mb (Ft s.data.toList) V).1,.i (Mb (Ft s.data.toList) V).2.1,.i (Mb (Ft s.data.toList) V).2.2])/\Bl w b:=by
 have m:=Bez s V w A q;generalize Mb (Ft s.data.toList) V=R at *;obtain⟨C,D,F⟩:=R;simp only at m ⊢;have G:=Bc m;clear m q;go_in;go_wp2_with fail;refine(Ba G).mono ?_;rintro e J ⟨c,f,g,h,j,l,rfl,-,p⟩;have I:=(p.alloc p.size (O1 c f g h j l)).alloc (by have:=p.size;simp;omega) (O8 C D F);go_wp2
 go_region
 all_goals
  go_wp2;go_ret3;exact⟨rfl,I.drew⟩
def Kl (CR:Rd.Mth->Int × Int):Nat->List Rd.Mth->Int × Int × Int
 | _,[]=>(0,0,0)
 | k,m::r=>if (CR m).1≠0 then ((CR m).1,(k:Int),(CR m).2) else Kl CR (k+1) r
def Wv (P V:Int × Int × Int):Int × Int × Int:=if P.1≠0 then P else V
def Bta{α β:Type}{l:List (α×β)}{r:List α}(h:l.map Prod.fst=r){p:α->Prop}(b:∀x∈r,p x):∀y∈l,p y.1:=fun y c=>b y.1 (by rw[<- h];exact List.mem_map.2 ⟨y,c,rfl⟩)
def Ey (T:TI)(x:Be):Prop:=(∀t∈x.locals,Tr.Arg T t.1 t.2)/\∀t∈x.stack,Tr.Arg T t.1 t.2
def Bfx(T:TI)(a b:TP)(h:a.length=b.length):Ig T a b=Nz T a b:=by
 unfold Ig;rw[Pf Bd,h,Byx,List.drop_zero]
def V8(e:Tr.Ok z){x y:Be}(f:Ey z x)(h:Ey z y):Dk z x y=Hx z x y:=by
 unfold Dk Hx Mu;by_cases b:x.stack.length=y.stack.length
 ·rw[Pf (fun g=>g b),Sp b];by_cases c:x.locals.length=y.locals.length;·rw[Pf (fun g=>g c),Sp c,Bfx z _ _ c,Bfx z _ _ b,Pg e _ _ f.1 h.1,Pg e _ _ f.2 h.2]
  rw[Sp c,Pf c];rfl
 rw[Sp b,Pf b,Bool.and_false]
def Bpk(T:TI)(b:List Rd.Cls)(c:7<=b.length)(e:∀i,i<7->(b.getD i ⟨0,[]⟩).fields=[])(f:List Rd.Mth)(g:Int×Int)(op:Int)(n:Nat)(h:op=17\/op=18->n<(Rf.fieldsTo T b (b.length-7)).length):Ij (b.map Rd.Cls.fields) f g op (n:Int)=Cu (Rf.fieldsTo T b (b.length-7)) f g op (n:Int):=by
 unfold Ij Cu;by_cases j:op=17;·subst j;rw[Bbo T b c e n (h (.inl rfl)),Bvn]
 by_cases l:op=18;·subst l;rw[Bbo T b c e n (h (.inr rfl)),Bvn]
 simp only[j,l,Bxk]
def Bnw(T:TI)(b:List Rd.Cls)(f:7<=b.length)(g:∀i,i<7->(b.getD i ⟨0,[]⟩).fields=[])(c:List Rd.Mth)(op:Int)(n:Nat)(h:op=17->n<(Rf.fieldsTo T b (b.length-7)).length):Hj (b.map Rd.Cls.fields) c op (n:Int)=Fg (Rf.fieldsTo T b (b.length-7)) c op (n:Int):=by
 unfold Hj Fg;by_cases e:op=17;·subst e;rw[Bbo T b f g n (h rfl),Bvn];simp
 simp only[e,Bxk];have:(op=0\/op=24\/op=7\/op=8\/op=9\/op=10)<->(op=0\/op=7\/op=8\/op=9\/op=10\/op=24):=Bd;simp only[this]
def Am{mp:Int->Option Be}{x:Be}(h:mp c=none):Iv z mp x c=true:=by unfold Iv;rw[h];rfl
def Ss(e:Tr.Ok z){mp:Int->Option Be}{x b:Be}(h:mp c=some b)(f:Ey z x)(g:Ey z b):Iv z mp x c=Dk z x b:=by
 unfold Iv;rw[h,V8 e f g];rfl
def Bek{mp:Int->Option Be}{x:Be}(h:mp c=none):J8 z mp x c=8:=by unfold J8;rw[h];rfl
def Bgy(e:Tr.Ok z){mp:Int->Option Be}{x b:Be}(h:mp c=some b)(f:Ey z x)(g:Ey z b)(i:Dk z x b=false):J8 z mp x c=9:=by
 unfold J8;rw[Pf (by rw[h];simp),Sp (by rw[Ss e h f g];exact i)]
def Bel(e:Tr.Ok z){mp:Int->Option Be}{x b:Be}(h:mp c=some b)(f:Ey z x)(g:Ey z b)(i:Dk z x b=true):J8 z mp x c=0:=by
 unfold J8;rw[Pf (by rw[h];simp),Pf (by rw[Ss e h f g,i];simp)]
def Bay(i:Tr.Ok z)(mp:Int->Option Be)(j:∀q b,mp q=some b->Ey z b)(p:Int)(c:TP)(s:∀t∈c,Tr.Arg z t.1 t.2):∀l:List Rd.Hnd,(∀h∈l,Tr.Arg z 3 h.cl) ->
  Hg z mp p c l=Kk z mp p c l
 | [],_=>rfl
 | h::r,hh=>by
  have C:=Bay i mp j p c s r (fun x g=>hh x (by simp[g]));rw[Hg,Kk,C];unfold El;by_cases v:p<h.frm;·have e:decide (h.frm<=p)=false:=Fm;rw[e,Bx0,Sp rfl,Sp v]
  have e:decide (h.frm<=p)=true:=Fm;rw[e,Bxn,Pf v];by_cases A:h.til<=p;·have m:decide (p<h.til)=false:=Fm;rw[m,Sp rfl,Sp A]
  have m:decide (p<h.til)=true:=Fm;rw[m,Pf Fr,Pf A];cases f:mp h.target with
  | none =>
   rw[Bek f,Sp (show (8:Int)≠0 by decide),Sp (show (none:Option Be).isSome=false from rfl)]
  | some b =>
   have g:Ey z ⟨c,[(3,h.cl)]⟩:=⟨s,fun t D=>by obtain rfl:=List.mem_singleton.1 D;exact hh h Fr⟩;have F:Ef (some b)=b:=rfl;rw[F,Pf (show ¬(some b).isSome=false by simp)];cases B:Dk z ⟨c,[(3,h.cl)]⟩ b with
   | false=>rw[Bgy i f g (j _ _ f) B,Sp (show (9:Int)≠0 by decide),Sp rfl]
   | true=>rw[Bel i f g (j _ _ f) B,Pf (show ¬(0:Int)≠0 by decide),Pf (show ¬true=false by decide)]
def Bsr(l:Tr.Ok z)(mp:Int->Option Be)(m:∀q b,mp q=some b->Ey z b)(H:Int)(B:Option Be)(A:∀y,B=some y->Ey z y)(op n f g:Int):Tn z mp H B op n f g=Nq z mp H B op n f g:=by
 unfold Tn Nq;by_cases h:H≠0;·rw[Sp h,Sp h]
 rw[Pf h,Pf h];cases B with
 | none=>rfl
 | some y =>
  have p:=A y rfl;have e:Ef (some y)=y:=rfl;rw[Pf (show ¬(some y).isSome=false by simp),Pf (show ¬(some y).isSome=false by simp),e];have v:(if Dz op=false then 0 else To z mp g y f)=(if Dz op=false then 0 else if g<=f then 11 else if (mp f).isSome=true/\Dk z y (Ef (mp f))=false then 9 else 0):=by
   by_cases i:Dz op=false;·rw[Sp i,Sp i]
   rw[Pf i,Pf i];unfold To;by_cases j:g<=f;·rw[Sp j,Sp j]
   rw[Pf j,Pf j];cases c:mp f with
   | none=>rw[Am c,Pf Fr,Pf Fr]
   | some b =>
    have s:Ef (some b)=b:=rfl;rw[Ss l c p (m _ _ c),s];cases t:Dk z y b with
    | false=>rw[Sp rfl,Sp ⟨rfl,rfl⟩]
    | true=>rw[Pf Fr,Pf Fr]
  cases C:Dx op with
  | false=>rw[Pf (show ¬(false=true/\J8 z mp y n≠0) by simp),Pf (show ¬(false=true/\(mp n).isSome=false) by simp),Pf (show ¬(false=true/\Dk z y (Ef (mp n))=false) by simp)];exact v
  | true =>
   cases c:mp n with
   | none=>rw[Bek c,Sp (show true=true/\(8:Int)≠0 by decide),Sp (show true=true/\(none:Option Be).isSome=false from ⟨rfl,rfl⟩)]
   | some b =>
    have s:Ef (some b)=b:=rfl;rw[s];cases t:Dk z y b with
    | false=>rw[Bgy l c p (m _ _ c) t,Sp (show true=true/\(9:Int)≠0 by decide),Pf (show ¬(true=true/\(some b).isSome=false) by simp),Sp (show true=true/\false=false from ⟨rfl,rfl⟩)]
    | true =>
     rw[Bel l c p (m _ _ c) t,Pf (show ¬(true=true/\(0:Int)≠0) by decide),Pf (show ¬(true=true/\(some b).isSome=false) by simp),Pf (show ¬(true=true/\true=false) by decide)];exact v
def Bb0(c:TI):∀(k p:Nat),(∀q∈Cd.starts c k p,p<=q)/\(Cd.starts c k p).Pairwise (· < ·)
 | 0,p=>by simp[Cd.starts]
 | k+1,p=>by
  have g:=Cd.wd_bd (c.getD p 0);obtain⟨e,f⟩:=Bb0 c k (p+Cd.wd (c.getD p 0));unfold Cd.starts
  split
  ·refine⟨fun q b=>?_,List.pairwise_cons.2 ⟨fun q b=>?_,f⟩⟩
   ·rcases List.mem_cons.1 b with rfl|b
    ·exact Wf _
    have:=e q b;omega
   have:=e q b;omega
  simp
def Bd4(c:TI):(Cd.places c).Pairwise (· < ·):=(Bb0 c c.length 0).2
def Bdq(mp:Int->Option Be)(j:Nat->Be->Option Be)(b:Nat->Be->Int)(c:TI)(l:Cd.Ins->Be->Int)(m:Cd.Ins->Be->Option Be)(P:Be->Prop)(v:∀q z,mp q=some z->P z) :
  ∀(s:List Nat),(∀p∈s,∀x,P x->l (Cd.insAt c p) x=b p x/\(b p x=0->∃y,j p x=some y/\m (Cd.insAt c p) x=some y/\P y))->∀o:Option Be,(∀x,o=some x->P x) ->
   Oq mp l m (s.map (Cd.insAt c)) o=Ty (fun p=>mp (p:Int)) j (fun p=>Dz (c.getD p 0)) b s o
 | [],_,_,_=>rfl
 | p::r,h,o,ho=>by
  have A:=Bdq mp j b c l m P v r (fun q e=>h q (by simp[e]));rw[Bwm,Oq,Ty];have B:(Cd.insAt c p).place=(p:Int):=rfl;have C:(Cd.insAt c p).op=c.getD p 0:=rfl;rw[B,C];cases f:(mp (p:Int)).or o with
  | none=>exact A none (fun x D=>by cases D)
  | some x =>
   have F:P x:=by
    cases e:mp (p:Int) with
    | none=>rw[e]at f;exact ho x f
    | some z=>rw[e]at f;obtain rfl:=Option.some.inj f;exact v _ _ e
   obtain⟨G,g2⟩:=h p Fr x F;simp only;rw[G];by_cases i:b p x=0
   ·rw[Pf (show ¬b p x≠0 from fun g=>g i),Pf (show ¬b p x≠0 from fun g=>g i)];obtain⟨y,I,J,K⟩:=g2 i;have L:Mk (fun p=>mp (p:Int)) j (fun p=>Dz (c.getD p 0)) p o=if Dz (c.getD p 0)=true then some y else none:=by
     unfold Mk;simp only;rw[f];simp only[Bx1];rw[I];rfl
    rw[L,J];refine A _ (fun N t=>?_)
    split at t
    ·obtain rfl:=Option.some.inj t;exact K
    cases t
   rw[Sp (show b p x≠0 from i),Sp (show b p x≠0 from i)]
def Bhi(A:Tr.Ok z)(mp:Int->Option Be)(g:Nat->Be->Option Be)(f:Nat->Be->Int)(c:TI)(i:Cd.Ins->Be->Int)(j:Cd.Ins->Be->Option Be)(P:Be->Prop)(m:∀x,P x->Ey z x)(s:∀q b,mp q=some b->P b)(e:Be)(t:P e) (h:∀p∈Cd.places c,∀x,P x->i (Cd.insAt c p) x=f p x/\(f p x=0->∃y,g p x=some y/\j (Cd.insAt c p) x=some y/\P y)):Tp z mp i j (Cd.insts c) e=Vi z (mp 0) e (fun q=>Ry (fun p=>mp (p:Int)) g (fun p=>Dz (c.getD p 0)) q (Cd.places c) (some e)) f (Cd.places c):=by
 unfold Tp Vi Cd.insts;have v:=Ag (fun p=>mp (p:Int)) g (fun p=>Dz (c.getD p 0)) f (some e) (Cd.places c) [] (by simpa using Bd4 c);simp only[Bx4,List.foldl_nil]at v;rw[v,Bdq mp g f c i j P s (Cd.places c) h (some e) (fun x B=>by obtain rfl:=Option.some.inj B;exact t)];cases l:mp 0 with
 | none=>rw[Am l,Pf (show ¬true=false by decide),Pf (show ¬((none:Option Be).isSome=true/\Dk z e (Ef none)=false) by simp)]
 | some b =>
  have C:Ef (some b)=b:=rfl;rw[Ss A l (m _ t) (m _ (s _ _ l)),C];cases D:Dk z e b with
  | false=>rw[Sp rfl,Sp (show (some b).isSome=true/\false=false from ⟨rfl,rfl⟩)]
  | true=>rw[Pf (show ¬true=false by decide),Pf (show ¬((some b).isSome=true/\true=false) by simp)]
def Bcl(f g:Rd.Mth->Int×Int):∀(b:List Rd.Mth) (k:Nat),(∀m∈b,f m=g m)->Fs f k b=Kl g k b
 | [],_,_=>rfl
 | m::r,k,h=>by rw[Fs,Kl,h m Fr,Bcl f g r (k+1) (fun x c=>h x (by simp[c]))]
def Beo{m:List Rd.Mth}:∀(l:List Rd.Mth) (k:Nat),Ho z m k l<0->∀b∈l,∃j,Ip z m j b=true
 | [],_,_=>Fr
 | b::r,k,h=>by
  rw[Ho]at h;by_cases c:Ip z m k b=false;·rw[Sp c]at h;omega
  rw[Pf c]at h;intro x e;rcases List.mem_cons.1 e with rfl|e
  ·exact⟨k,by simpa using c⟩
  exact Beo r _ h x e
def Bcr{e:TI}:∀(l:List Rd.Mth) (k:Nat),(Jy z c e k l).1=0->∀m∈l,(Ou z c e m).1=0
 | [],_,_=>Fr
 | m::r,k,h=>by
  rw[Jy]at h;by_cases b:(Ou z c e m).1≠0;·rw[Sp b]at h;exact absurd h b
  rw[Pf b]at h;intro x f;rcases List.mem_cons.1 f with rfl|f
  ·simpa using b
  exact Bcr r _ h x f
def Bg2:∀(l:List Rd.Cls) (k:Nat),(Tr.inCl z k l).1=0->∀c∈l,Tr.allPlainB z c.fields=true
 | [],_,_=>Fr
 | c::r,k,h=>by
  rw[Tr.inCl]at h;by_cases f:7+(k:Int)<=c.above;·rw[Sp f]at h;simp at h
  rw[Pf f]at h;by_cases b:Tr.allPlainB z c.fields=false;·rw[Sp b]at h;simp at h
  rw[Pf b]at h;intro x e;rcases List.mem_cons.1 e with rfl|e
  ·simpa using b
  exact Bg2 r _ h x e
def Ba2{α:Type}{f:α->Bool}:∀(l:List α) (k:Nat),Cd.firstIx f k l<0->∀x∈l,f x=false
 | [],_,_=>Fr
 | x::r,k,h=>by
  rw[Cd.firstIx]at h;by_cases b:f x=true;·rw[Sp b]at h;omega
  rw[Pf b]at h;intro y c;rcases List.mem_cons.1 c with rfl|c
  ·simpa using b
  exact Ba2 r _ h y c
def Bau{c:TI}:∀(l:List Rd.Mp) (i:Nat) (b:Int),Cd.mapsBad z c i b l<0->∀x∈l,Cd.frAll z c x.locals=true/\Cd.frAll z c x.stack=true/\Cd.begB c x.place=true
 | [],_,_,_=>Fr
 | m::r,i,b,h=>by
  rw[Cd.mapsBad]at h;by_cases e:Cd.begB c m.place=false;·rw[Sp e]at h;omega
  rw[Pf e]at h;by_cases p:m.place<=b;·rw[Sp p]at h;omega
  rw[Pf p]at h;by_cases f:Cd.frAll z c m.locals=false;·rw[Sp f]at h;omega
  rw[Pf f]at h;by_cases g:Cd.frAll z c m.stack=false;·rw[Sp g]at h;omega
  rw[Pf g]at h;intro y j;rcases List.mem_cons.1 j with rfl|j
  ·exact⟨by simpa using f,by simpa using g,by simpa using e⟩
  exact Bau r _ _ h y j
structure Av(m:Rd.Mth):Prop where
 lo:0<=m.locals/\m.locals<=8
 st:0<=m.stack/\m.stack<=8
 ml:∀q∈m.maps,q.locals.length=m.locals.toNat/\(q.stack.length:Int)<=m.stack
 c255:∀x∈m.code,x<=255
def Bue(s:TB)(L H:Int)(b:0<=H)(t:Rd.St):(Rd.mp s L H t).1.locals.length=L.toNat/\((Rd.mp s L H t).1.stack.length:Int)<=H:=by
 simp only[Rd.mp,Rd.tys,Rd.rep_len];have:=Rd.cn_bd s 0 H (Rd.rep (Rd.ty s) L.toNat (Rd.nx s t).2).2 b;exact⟨trivial,Bd⟩
def Bt9(s:TB)(t:Rd.St):Av (Rd.mth s t).1:=by
 simp only[Rd.mth];generalize (Rd.nx s (Rd.nx s t).2).2=e;generalize Rd.cn s 0 4 e=p at *;generalize (Rd.tys s p.1.toNat p.2).2=f;generalize (Rd.ty s f).2=b;have g:=Rd.cn_bd s 0 8 b Bd;generalize Rd.cn s 0 8 b=l at *;have c:=Rd.cn_bd s 0 8 l.2 Bd;generalize Rd.cn s 0 8 l.2=h at *;refine⟨g,c,?_,by simp only[Rd.codes];exact Sb (fun x:Int=>x<=255) _ (fun t=>(Rd.nx_bd s t).2) _ _⟩;simp only[Rd.mps];exact Sb (fun q:Rd.Mp=>q.locals.length=l.1.toNat/\(q.stack.length:Int)<=h.1) _ (fun t=>Bue s l.1 h.1 c.1 t) _ _
def Bsa(s:TB):∀m∈(Rd.read s).1.methods,Av m:=by
 unfold Rd.read
 split
 ·simp
 split
 ·simp
 simp only[Rd.fil];exact Sb Av _ (fun t=>Bt9 s t) _ _
structure Ra(T:List Int)(nf:Int)(ms:List Rd.Mth)(m:Rd.Mth):Prop where
 bd:Uy m
 rd:Av m
 unread:Cd.unread m.code<0
 arg:∀p∈Cd.places m.code,Cd.argAt T nf (ms.map Rd.Mth.cl) m.locals m.code p=true
 hnd:∀h∈m.handlers,Cd.hndBad T m.code h=false
 map:∀q∈m.maps,Cd.frAll T m.code q.locals=true/\Cd.frAll T m.code q.stack=true/\Cd.begB m.code q.place=true
 cl:m.cl=255\/Tr.hasB T m.cl=true
 res:Tr.plainB T m.result.1 m.result.2=true\/m.result=(0,0)
 ps:Tr.allPlainB T m.params=true
 own:((Kv m.cl m.params).length:Int)<=m.locals
def Bop{m:List Rd.Mth}{F:Rd.Mth}(s:Uy F)(t:Av F)(v:∃j,Ip z m j F=true)(h:(Ou z c (m.map Rd.Mth.cl) F).1=0):Ra z c m F:=by
 unfold Ou at h;by_cases e:0<=Cd.badCode z c (m.map Rd.Mth.cl) F.locals F.code;·rw[Sp e]at h;simp at h
 rw[Pf e]at h;by_cases q:0<=Cd.firstIx (Cd.hndBad z F.code) 0 F.handlers;·rw[Sp q]at h;simp at h
 rw[Pf q]at h;by_cases A:0<=Cd.mapsBad z F.code 0 (-1) F.maps;·rw[Sp A]at h;simp at h
 unfold Cd.badCode at e;have i:Cd.unread F.code<0:=by
  by_cases i:0<=Cd.unread F.code;·rw[Sp i]at e;exact absurd i e
  omega
 rw[Pf Bd]at e;obtain⟨j,b⟩:=v;unfold Ip Rx at b;by_cases f:Yf z F.cl F.name F.result.1 F.result.2=true;·rw[Sp f]at b;simp at b
 rw[Pf f]at b;by_cases g2:Tr.allPlainB z F.params=false;·rw[Sp g2]at b;simp at b
 rw[Pf g2]at b;by_cases g3:Nn F.cl F.locals F.params=true;·rw[Sp g3]at b;simp at b
 unfold Yf at f;unfold Nn at g3;simp only[B0e,Bwk,Bwp,Bool.not_eq_true',Bxb,not_or,not_and]at f g3;have g4:Cd.firstIx (Cd.hndBad z F.code) 0 F.handlers<0:=Bd;have g5:Cd.mapsBad z F.code 0 (-1) F.maps<0:=Bd;have g6:Cd.first (Cd.badArg z c (m.map Rd.Mth.cl) F.locals F.code) (Cd.places F.code)<0:=Bd
 refine⟨s,t,i,?_,Ba2 _ _ g4,Bau _ _ _ g5,?_,?_,by simpa using g2,?_⟩
 ·intro p l;have:=An g6 p l;unfold Cd.badArg at this;simpa using this
 ·by_cases g:F.cl=255;·exact .inl g
  have:=f.1;rw[Pf g]at this;simp at this;exact .inr this.1
 ·by_cases l:Tr.plainB z F.result.1 F.result.2=true;·exact .inl l
  have:=f.2 (by simpa using l);exact .inr (by simpa[Prod.ext_iff] using this)
 unfold Kv;by_cases g:F.cl=255;·rw[Sp g];simp;omega
 rw[Pf g];have:=g3.2 g;simp;omega
structure Jj(cs:List Rd.Cls)(ms:List Rd.Mth):Prop where
 ok:Tr.Ok (Tr.tree cs)
 l6:cs.length<=6
 m6:ms.length<=6
 fn:∀c∈cs,c.fields.length<=1000
 fl:∀c∈cs,Tr.allPlainB (Tr.tree cs) c.fields=true
 mt:∀m∈ms,Ra (Tr.tree cs) (Cd.fieldSum cs:Int) ms m
def Ke(s:TB)(h:(Rf.formed s).1=0):Jj (Rd.read s).1.classes (Rd.read s).1.methods/\(Rf.fil s).1=(Rd.read s).1.classes/\(Rf.fil s).2.1.map Rf.Mth.m=(Rd.read s).1.methods:=by
 rw[<- M3]at h;obtain⟨l,p⟩:=Xt s;obtain⟨q,f⟩:=Vx s;have t:=Bsa s;unfold Ft at h;by_cases c:(Rd.read s).2≠0;·rw[Sp c]at h;exact absurd h c
 rw[Pf c]at h;obtain⟨v,z⟩:=(Bbd s).2 (by simpa using c);refine⟨?_,v.symm,z.symm⟩;unfold Ni at h;by_cases e:(Tr.inCl (Tr.tree (Rd.read s).1.classes) 0 (Rd.read s).1.classes).1≠0;·rw[Sp e]at h;exact absurd h e
 rw[Pf e]at h;have g:(Tr.inCl (Tr.tree (Rd.read s).1.classes) 0 (Rd.read s).1.classes).1=0:=by simpa using e
 have i:=Bi4 _ (Bf9 s) g;have C:=Ix (Rd.read s).1.classes;rw[Bjb i Bd Bd _ _ (fun o A=>(f o A).cl) (fun m b=>(f m b).code0)]at h;unfold Tx at h;by_cases j:0<=Ho (Tr.tree (Rd.read s).1.classes) (Rd.read s).1.methods 0 (Rd.read s).1.methods;·rw[Sp j]at h;simp at h
 rw[Pf j]at h;have B:Ho (Tr.tree (Rd.read s).1.classes) (Rd.read s).1.methods 0 (Rd.read s).1.methods<0:=Bd;exact⟨i,l,q,p,Bg2 _ _ g,fun m b=>Bop (f m b) (t m b) (Beo _ _ B m b) (Bcr _ _ h m b)⟩
def Cd.atI(c:TI)(i:Int):Int:=if i<0 then -1 else if (c.length:Int)<=i then -1 else c.getD i.toNat 0
def Wi(s:ByteArray)(i:Int):Rf.at' s.data.toList i=Cd.atI (Co s) i:=by
 unfold Rf.at' Cd.atI;rw[Jo];have c:s.data.toList.length=s.size:=Fr;rw[c];by_cases h:i<0;·rw[Sp h,Sp h]
 rw[Pf h,Pf h];by_cases b:(s.size:Int)<=i;·rw[Sp b,Sp b]
 rw[Pf b,Pf b];unfold Co;simp only[Th,Bv8];have:i.toNat<s.data.toList.length:=Bd;rw[Ws this];rfl
def Baa(c:TI)(p:Nat):Cd.nAt c p=Cd.atI c ((p:Int)+1):=by
 unfold Cd.nAt Cd.atI;rw[Pf (show ¬(p:Int)+1<0 by omega)];by_cases h:p+1<c.length
 ·rw[Sp h,Pf Bd]
  congr 1
 rw[Pf h,Sp Bd]
def N2(h:Cd.unread z<0):∀p∈Cd.places z,z.getD p 0<=25/\p+Cd.wd (z.getD p 0)<=z.length:=by
 intro p b;have:=An h p b;unfold Cd.noRead at this;simp at this;simpa using this
def W3{c:TI}{p:Nat}(h:p+Cd.wd (c.getD p 0)<=c.length)(b:Cd.wd (c.getD p 0)=2):(Cd.insAt c p).n=Cd.atI c ((p:Int)+1)/\Cd.atI c ((p:Int)+1)=c.getD (p+1) 0:=by
 have:Cd.atI c ((p:Int)+1)=c.getD (p+1) 0:=by
  rw[<- Baa];unfold Cd.nAt;rw[Sp Bd]
 refine⟨?_,this⟩;rw[this];unfold Cd.insAt;simp only;rw[Sp b]
def Bsh{F:List Rf.Fld}{m:List Rd.Mth}{e:Int->List (Int×Int)}{arg:Int->Int}{C:Int×Int}{op:Int}{x:Be}(h:Cd.wd op=1)(n b:Int):Ik z F m e arg C c op n x=Ik z F m e arg C c op b x:=by
 have j:¬(op=0\/op=2\/op=3\/(11<=op/\op<=21)):=by
  intro g;unfold Cd.wd at h;rw[Sp g]at h;omega
 have f:Cu F m C op n=Cu F m C op b:=by
  unfold Cu;simp only[show op≠17 by omega,show op≠18 by omega,show op≠20 by omega,show op≠21 by omega,Bxk]
 have i:Fg F m op n=Fg F m op b:=by
  unfold Fg;simp only[show op≠17 by omega,show op≠19 by omega,show op≠20 by omega,show op≠21 by omega,Bxk,false_or]
 unfold Ik;rw[f,i];simp only[show op≠2 by omega,show op≠3 by omega,show op≠16 by omega,Bxk]
def Bui{mp:Int->Option Be}{H:Int}{R:Option Be}{op b:Int}(h:Cd.wd op=1)(n f:Int):Nq z mp H R op n b c=Nq z mp H R op f b c:=by
 have i:¬(op=0\/op=2\/op=3\/(11<=op/\op<=21)):=by
  intro g;unfold Cd.wd at h;rw[Sp g]at h;omega
 have e:Dx op=false:=by unfold Dx;simp;omega
 unfold Nq;simp only[e,Bye,false_and,Bxk]
def Lr{n:Int}:Tr.hasB z n=true<->0<=n/\n<(z.length:Int):=by unfold Tr.hasB;simp
def Ht{C:Int×Int}(h:Tr.plainB z C.1 C.2=true):Tr.Arg z C.1 C.2/\C.1≠4:=by
 unfold Tr.plainB at h;by_cases b:C.1=1;·rw[Sp b]at h;exact⟨.inr (.inl ⟨b,by simpa using h⟩),Bd⟩
 rw[Pf b]at h;by_cases c:C.1=3;·rw[Sp c]at h;exact⟨.inr (.inr (.inr (.inl ⟨c,Lr.1 h⟩))),Bd⟩
 rw[Pf c]at h;simp at h
def Bbe{b:Int->Prop}{C:Int×Int}(h:Tr.plainB z C.1 C.2=true):Dj z b C:=⟨(Ht h).1,fun g=>absurd g (Ht h).2⟩
def Pi{q:TP}(h:Tr.allPlainB z q=true):∀t∈q,Tr.plainB z t.1 t.2=true:=fun t b=>by
 unfold Tr.allPlainB at h;exact List.all_eq_true.1 h t b
def Xr{n:Int}(h:0<=n/\n<(z.length:Int)):Tr.Arg z 3 n:=.inr (.inr (.inr (.inl ⟨rfl,h⟩)))
def Beq{r:Int×Int}(h:Tr.plainB z r.1 r.2=true\/r=(0,0)):∀t∈Ei r,Tr.plainB z t.1 t.2=true:=by
 intro t b;unfold Ei at b
 split at b
 ·simp at b
 rename_i c;obtain rfl:=List.mem_singleton.1 b;rcases h with h|h
 ·exact h
 rw[h]at c;exact absurd rfl c
def Beb{B:Int}{own:TP}:∀(k:Nat),k<=own.length->∀f∈Rf.ownTo c B own k,f.owner=c/\f.t∈own
 | 0,_=>by simp[Rf.ownTo]
 | k+1,h=>by
  intro f b;rw[Rf.ownTo]at b;rcases List.mem_append.1 b with b|b
  ·exact Beb k Bd f b
  obtain rfl:=List.mem_singleton.1 b;exact⟨rfl,Hu Bd⟩
def Sf:Rf.given.length=7:=rfl
def Bqy(b:List Rd.Cls)(j:Nat):(Rf.given++b).getD (7+j) ⟨0,[]⟩=b.getD j ⟨0,[]⟩:=by
 rw[Th,Bvt (by rw[Sf];omega),Sf,<- Th]
 congr 1;omega
def Pd(b:List Rd.Cls)(i:Nat)(h:i<7):((Rf.given++b).getD i ⟨0,[]⟩).fields=[]:=by
 rw[Th,Bvy (by rw[Sf];omega)];have:i=0\/i=1\/i=2\/i=3\/i=4\/i=5\/i=6:=Bd;rcases this with rfl|rfl|rfl|rfl|rfl|rfl|rfl<;>rfl
def Bex{t:List Rd.Cls}(h:∀c∈t,Tr.allPlainB z c.fields=true)(d:Nat):∀b∈((Rf.given++t).getD d ⟨0,[]⟩).fields,Tr.plainB z b.1 b.2=true:=by
 by_cases e:d<7;·rw[Pd t d e];simp
 obtain⟨j,rfl⟩:∃j,d=7+j:=⟨d-7,Bd⟩;rw[Bqy];by_cases f:j<t.length;·exact Pi (h _ (Hu f))
 rw[Th,Bwz Bd];simp
def Bcm{g:List Rd.Cls}(h:∀c∈g,Tr.allPlainB z c.fields=true):∀(j:Nat),∀f∈Rf.fieldsTo z (Rf.given++g) j,(7<=f.owner/\f.owner<7+(j:Int))/\Tr.plainB z f.t.1 f.t.2=true
 | 0=>by simp[Rf.fieldsTo]
 | j+1=>by
  intro f e;rw[Rf.fieldsTo]at e;rcases List.mem_append.1 e with e|e
  ·obtain⟨a,b⟩:=Bcm h j f e;exact⟨Bd,b⟩
  unfold Rf.ownOf at e;obtain⟨a,b⟩:=Beb _ (Wf _) f e;exact⟨Bd,Bex h _ _ b⟩
def W9{t:List Rd.Cls}(h:∀c∈t,Tr.allPlainB z c.fields=true)(c:Int):∀(d:Nat),∀b∈Rf.allTo z (Rf.given++t) c d,Tr.plainB z b.1 b.2=true
 | 0=>by simp[Rf.allTo]
 | d+1=>by
  intro b e;rw[Rf.allTo]at e;rcases List.mem_append.1 e with e|e
  ·exact W9 h c d b e
  split at e
  ·exact Bex h d b e
  simp at e
end Go.Proofs.YtpcgnjolfahacaaGreat
