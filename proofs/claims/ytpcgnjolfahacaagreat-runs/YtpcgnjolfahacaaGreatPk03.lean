/- the proof's parts -/
import Derived.Test.YtpcgnjolfahacaaGreatPk02
set_option maxRecDepth 100000
set_option maxHeartbeats 40000000
set_option linter.unusedVariables false
set_option linter.unusedSimpArgs false
set_option linter.defProp false
namespace Go.Proofs.YtpcgnjolfahacaaGreat
open Go.RowKit Go.Proofs.Tryz
def Bg4(c:List (List (Int×Int)))(b:List Rd.Mth)(e:∀m∈b,m.params.length<=1000)(f:Int×Int)(op n:Int):(Hs c b f op n).length<=1001:=by
 have g:(b.getD n.toNat ⟨0,0,[],(0,0),0,0,[],[],[]⟩).params.length<=1000:=by
  rw[Vm];rcases h:b[n.toNat]? with _|x
  ·simp
  simp;exact e x (Bs6 h)
 unfold Hs Ds
 repeat' split
 all_goals first|(simp;done)|(simp only[Br7];omega)|omega
def Ea.frame{w:TW}{u k:Nat}{c:BnC}{v:FrV}{b:Dv}(h:Ea w u k c v b):v.is ⟨b.lo,b.st⟩ w:=⟨TyR.of_tys h.lo,TyR.of_tys h.st,by have:=h.ll;simp only;omega,h.sl⟩
def Yk(b:Dv):(Bj b).2.st.length<=b.st.length:=by unfold Bj;split<;>simp
def Bba(c:Int)(t:Int×Int)(b:Dv):(Ed c t b).st.length<=b.st.length+1:=by unfold Ed;split<;>simp
def Bew(b:List (List (Int×Int)))(c:List Rd.Mth)(op n:Int):(Gm b c op n).length<=1:=by
 unfold Gm Ds
 repeat' split
 all_goals simp
def Bey(b:PBd)(bb:Nat)(G:List (Rd.Mth×Ex))(A:List (Value×List (Int×Int)))(pp op:Int)(n:Nat)(v:FrV)(x:Bf)(w:TW)(hR:Ru b w bb G A)(hx:v.is x w)(hn:n<=100000)(g2:x.locals.length<=1000)(g3:x.stack.length<=1000) (b4:∀p∈G,p.1.params.length<=1000)(c5:op=20\/op=21->n<G.length):Calls prog 221 #[b.val,.agg #[.i pp,.i op,.i (n:Int)],v.val] w fun e Z=>∃u:FrV, e=.r (.tuple #[u.val,.bool (L3 b.T b.st (Hs (A.map Prod.snd) (G.map Prod.fst) (b.r1,b.r2) op (n:Int)) (Gm (A.map Prod.snd) (G.map Prod.fst) op (n:Int)) (Dk b.T (A.map Prod.snd) (n:Int)) (J4 b.L (n:Int)) pp op (n:Int) x).isSome])/\(∀y,L3 b.T b.st (Hs (A.map Prod.snd) (G.map Prod.fst) (b.r1,b.r2) op (n:Int)) (Gm (A.map Prod.snd) (G.map Prod.fst) op (n:Int)) (Dk b.T (A.map Prod.snd) (n:Int)) (J4 b.L (n:Int)) pp op (n:Int) x=some y->u.is y Z)/\Bl w Z:=by
 have c6:∀p∈G,∀g,p.2.params.ownBlock=some g->g<w.heap.size:=fun p hp g hg=>((hR.ms.2 p hp).1.lt g hg).2;have c7:=fun Z (hb:Bl w Z)=>Bg5 b bb w.heap.size G A pp op n Z (hR.below hb) hn c6 b4 c5;have c8:=fun Z (hb:Bl w Z)=>Bex b bb w.heap.size G A pp op n Z (hR.below hb) hn c6 b4 c5;have c9:=fun k c v q Z (hb:Bl w Z) hq=>Bmf b bb k G A c v q n w Z hR hb hq;have a8:=fun c Z (h:Bl w Z)=>Beh c v x Z (hx.below h);have f0:=hR.ml;have f1:=hR.yl;have d0:=hR.tr;have f2:=hR.tl;generalize b5:L3 b.T b.st (Hs (A.map Prod.snd) (G.map Prod.fst) (b.r1,b.r2) op (n:Int)) (Gm (A.map Prod.snd) (G.map Prod.fst) op (n:Int)) (Dk b.T (A.map Prod.snd) (n:Int)) (J4 b.L (n:Int)) pp op (n:Int) x=PB;unfold L3 V5 at b5;have j3:(Hs (A.map Prod.snd) (G.map Prod.fst) (b.r1,b.r2) op (n:Int)).length<=1001:=Bg4 _ _ (fun m hm=>by obtain⟨p,hp,rfl⟩:=List.mem_map.1 hm;exact b4 p hp) _ _ _;have j4:(Gm (A.map Prod.snd) (G.map Prod.fst) op (n:Int)).length<=1:=Bew _ _ _ _;generalize Hs (A.map Prod.snd) (G.map Prod.fst) (b.r1,b.r2) op (n:Int)=tk at *;generalize Gm (A.map Prod.snd) (G.map Prod.fst) op (n:Int)=lv at *;generalize Dk b.T (A.map Prod.snd) (n:Int)=g4 at *;generalize J4 b.L (n:Int)=g5 at *;obtain⟨f3,f4,f5,f6,j5,f7,tg,tc,ya,yn,yc,cl,nm,pa,pl,pc,r1,r2,lo,F,ca,cn,cc,ha,hl,hc,ma,ml,mc,la,lc,T,L⟩:=b;obtain⟨xa,xn,xc,za,zn,zc⟩:=v;simp only at f0 f1 d0 f2 b5;subst f0 f1;simp only[PBd.val,FrV.val]at c7 c8 c9 a8 ⊢;have a8:=fun Z h=>a8 ⟨tg,tc,ya,A.length,yc,F,T⟩ Z h;simp only at a8;have g6:=Bc c7;have g7:=Bc c8;have g8:=Bc c9;have g9:=Bc a8;have a5:=Bc b5;clear c7 c8 c9 a8 c6 hR hx b4 c5 b5;have d1:=U9 w (O24 f3 f4 f5 f6 G.length f7 (.p tg) T.length tc ya A.length yc cl nm pa pl pc r1 r2 lo F ca cn cc ha hl hc ma ml mc la L.length lc) (O15 pp op (n:Int)) (O23 xa xn xc za zn zc) (O23 none 0 0 none 0 0);obtain⟨J,I0,X0,R0⟩:=Ai w (O24 f3 f4 f5 f6 G.length f7 (.p tg) T.length tc ya A.length yc cl nm pa pl pc r1 r2 lo F ca cn cc ha hl hc ma ml mc la L.length lc) (O15 pp op (n:Int)) (O23 xa xn xc za zn zc) (O23 none 0 0 none 0 0);have d2:=d1.size;go_in;go_wp2_with fail;refine(Ba g9 _ d1).mono ?_;rintro e w1 ⟨v1,rfl,d3,d4,f8,D⟩;obtain⟨K,N,vc,O,Q,V⟩:=v1;have d5:=d1.trans (D.mono d2);have f9:=d5.size;have lR:=Sp (stay D R0);have d6:∀j,(Value.slice K N vc).ownBlock=some j->w.heap.size+4<=j/\j<w1.heap.size:=fun j hj=>by have:=d3.lt j hj;simp at this;omega
 have d7:∀j,(Value.slice O Q V).ownBlock=some j->w.heap.size+4<=j/\j<w1.heap.size:=fun j hj=>by have:=d4.lt j hj;simp at this;omega
 have hA:Ea (w1.alloc (O22 (.p tg) T.length tc ya A.length yc K N vc O Q V F false)) w.heap.size w1.heap.size ⟨tg,tc,ya,A.length,yc,F,T⟩ ⟨K,N,vc,O,Q,V⟩ ⟨x.locals,x.stack,false⟩:=⟨Be w1 _,Sy (Cq.alloc' d3 _) d2,Sy (Cq.alloc' d4 _) d2,⟨fun e=>by have:=(d6 _ e).2;omega,fun e=>by have:=(d7 _ e).2;omega⟩,f8,f9,(d0.below d5).below (QN _),d0.1,f2,g2,Mc⟩;have b6:=d5.alloc f9 (O22 (.p tg) T.length tc ya A.length yc K N vc O Q V F false);have fr:∀j,j<w.heap.size+4->FrV.free ⟨K,N,vc,O,Q,V⟩ w1.heap.size j:=fun j hj=>⟨Ck,fun e=>by have:=(d6 _ e).1;omega,fun e=>by have:=(d7 _ e).1;omega⟩;have t:=fr w.heap.size Ck;have z:=fr (w.heap.size+1) Ck;have l:=fr (w.heap.size+1+1+1) Ck;have U1:=Bg (stay D J) (O22 (.p tg) T.length tc ya A.length yc K N vc O Q V F false);have I1:=Bg (stay D I0) (O22 (.p tg) T.length tc ya A.length yc K N vc O Q V F false);have R1:=Bg (stay D R0) (O22 (.p tg) T.length tc ya A.length yc K N vc O Q V F false);have G1:=Bn.refl w1.heap.size (w1.alloc (O22 (.p tg) T.length tc ya A.length yc K N vc O Q V F false)) ⟨K,N,vc,O,Q,V⟩;have i0:=Bb (stay D I0) 0;have i1:=Bb (stay D I0) 1;have i2:=Bb (stay D I0) 2;have j6:=Sp (stay D I0);simp at i0 i1 i2;have m0:=Bb (stay D J) 0;have m1:=Bb (stay D J) 1;have m2:=Bb (stay D J) 2;have m3:=Bb (stay D J) 3;have m4:=Bb (stay D J) 4;have m5:=Bb (stay D J) 5;have m6:=Bb (stay D J) 6;have m7:=Bb (stay D J) 7;have m8:=Bb (stay D J) 8;have m9:=Bb (stay D J) 9;have b7:=Bb (stay D J) 10;have b8:=Bb (stay D J) 11;have b9:=Bb (stay D J) 12;have c0:=Bb (stay D J) 13;have c1:=Bb (stay D J) 14;have j7:=Sp (stay D J);simp at m0 m1 m2 m3 m4 m5 m6 m7 m8 m9 b7 b8 b9 c0 c1;clear d6 d7 fr d3 d4 f8 D;by_cases B:op=2
 case' pos =>
  subst B;have a3:PB=Ew (Va F (n:Int) ⟨x.locals,x.stack,false⟩):=by rw[<- Ba a5];simp
  go_wp2_with fail;refine(Bm2 (w1.alloc (O22 (.p tg) T.length tc ya A.length yc K N vc O Q V F false)) _ _ _ _ _ n hA (by first|omega|(simp only;omega))).mono ?_
  rintro e w2 ⟨rfl,v2,Y,f⟩;have G2:=G1.trans f;have U2:=f.stay t U1;have I2:=f.stay z I1;have R2:=f.stay l R1;replace t:=f.free t (Sp U1);replace z:=f.free z (Sp I1);replace l:=f.free l (Sp R1);have hE:=Y;have GE:=G2;have RE:=R2
 rotate_left
 have n2:(op==2)=false:=Fr;have o2:=B;clear B;by_cases B:op=3
 case' pos =>
  subst B;have a3:PB=Ew (To (n:Int) ⟨x.locals,x.stack,false⟩):=by rw[<- Ba a5];simp
  go_wp2_with fail;refine Qm (Bi6 (w1.alloc (O22 (.p tg) T.length tc ya A.length yc K N vc O Q V F false)) _ _ _ _ _ n hA hn) ?_;rintro w2 ⟨v2,Y,f⟩;have G2:=G1.trans f;have U2:=f.stay t U1;have I2:=f.stay z I1;have R2:=f.stay l R1;replace t:=f.free t (Sp U1);replace z:=f.free z (Sp I1);replace l:=f.free l (Sp R1);have hE:=Y;have GE:=G2;have RE:=R2
 rotate_left
 have n3:(op==3)=false:=Fr;have o3:=B;clear B;by_cases B:op=4
 case' pos =>
  subst B;have a3:PB=Ew ((Bj ⟨x.locals,x.stack,false⟩).2):=by rw[<- Ba a5];simp
  go_wp2_with fail;refine Qm (L8 (w1.alloc (O22 (.p tg) T.length tc ya A.length yc K N vc O Q V F false)) _ _ _ _ _ hA) ?_;rintro w2 ⟨v2,Y,f⟩;have G2:=G1.trans f;have U2:=f.stay t U1;have I2:=f.stay z I1;have R2:=f.stay l R1;replace t:=f.free t (Sp U1);replace z:=f.free z (Sp I1);replace l:=f.free l (Sp R1);have hE:=Y;have GE:=G2;have RE:=R2
 rotate_left
 have n4:(op==4)=false:=Fr;have o4:=B;clear B;by_cases B:op=5
 case' pos =>
  subst B;have a3:PB=Ew (Ed F (Bj ⟨x.locals,x.stack,false⟩).1 (Ed F (Bj ⟨x.locals,x.stack,false⟩).1 (Bj ⟨x.locals,x.stack,false⟩).2)):=by rw[<- Ba a5];simp[Bel]
  go_wp2_with fail;refine Qm (L8 (w1.alloc (O22 (.p tg) T.length tc ya A.length yc K N vc O Q V F false)) _ _ _ _ _ hA) ?_;rintro w2 ⟨v2,Y,f⟩;have G2:=G1.trans f;have U2:=f.stay t U1;have I2:=f.stay z I1;have R2:=f.stay l R1;replace t:=f.free t (Sp U1);replace z:=f.free z (Sp I1);replace l:=f.free l (Sp R1);have d8:=Yk ⟨x.locals,x.stack,false⟩;simp only at d8;have a1:=Y.new (Bru _);have A0:=Be w2 (O7 (Bj ⟨x.locals,x.stack,false⟩).1.1 (Bj ⟨x.locals,x.stack,false⟩).1.2);have h3:=Y.alloc (O7 (Bj ⟨x.locals,x.stack,false⟩).1.1 (Bj ⟨x.locals,x.stack,false⟩).1.2);have G3:=G2.alloc (O7 (Bj ⟨x.locals,x.stack,false⟩).1.1 (Bj ⟨x.locals,x.stack,false⟩).1.2);have U3:=Bg U2 (O7 (Bj ⟨x.locals,x.stack,false⟩).1.1 (Bj ⟨x.locals,x.stack,false⟩).1.2);have I3:=Bg I2 (O7 (Bj ⟨x.locals,x.stack,false⟩).1.1 (Bj ⟨x.locals,x.stack,false⟩).1.2);have R3:=Bg R2 (O7 (Bj ⟨x.locals,x.stack,false⟩).1.1 (Bj ⟨x.locals,x.stack,false⟩).1.2);go_wp2_with fail;refine Qm (Nd _ _ _ _ _ _ (Bj ⟨x.locals,x.stack,false⟩).1.1 (Bj ⟨x.locals,x.stack,false⟩).1.2 h3 Ck) ?_;rintro w4 ⟨v4,h4,C⟩;have G4:=G3.trans C;have U4:=C.stay t U3;have I4:=C.stay z I3;have R4:=C.stay l R3;replace t:=C.free t (Sp U3);replace z:=C.free z (Sp I3);replace l:=C.free l (Sp R3);have A4:=C.stay a1 A0;replace a1:=C.free a1 (Sp A0);obtain⟨y0,y1⟩:=cl2 A4;have ly:=Sp A4;simp at y0 y1;have h0:=Bba F ((Bj ⟨x.locals,x.stack,false⟩).1.1,(Bj ⟨x.locals,x.stack,false⟩).1.2) (Bj ⟨x.locals,x.stack,false⟩).2;go_wp2_with fail;refine(Nd _ _ _ _ _ _ (Bj ⟨x.locals,x.stack,false⟩).1.1 (Bj ⟨x.locals,x.stack,false⟩).1.2 h4 (by first|omega|(simp only;omega))).mono ?_
  rintro e w5 ⟨rfl,v5,h5,a0⟩;have G5:=G4.trans a0;have U5:=a0.stay t U4;have I5:=a0.stay z I4;have R5:=a0.stay l R4;replace t:=a0.free t (Sp U4);replace z:=a0.free z (Sp I4);replace l:=a0.free l (Sp R4);have hE:=h5;have GE:=G5;have RE:=R5
 rotate_left
 have n5:(op==5)=false:=Fr;have o5:=B;clear B;by_cases B:op=6
 case' pos =>
  subst B;have a3:PB=Ew (Ed F (Bj (Bj ⟨x.locals,x.stack,false⟩).2).1 (Ed F (Bj ⟨x.locals,x.stack,false⟩).1 (Bj (Bj ⟨x.locals,x.stack,false⟩).2).2)):=by rw[<- Ba a5];simp[Baf]
  go_wp2_with fail;refine Qm (L8 (w1.alloc (O22 (.p tg) T.length tc ya A.length yc K N vc O Q V F false)) _ _ _ _ _ hA) ?_;rintro w2 ⟨v2,Y,f⟩;have G2:=G1.trans f;have U2:=f.stay t U1;have I2:=f.stay z I1;have R2:=f.stay l R1;replace t:=f.free t (Sp U1);replace z:=f.free z (Sp I1);replace l:=f.free l (Sp R1);have d8:=Yk ⟨x.locals,x.stack,false⟩;simp only at d8;have a1:=Y.new (Bru _);have A0:=Be w2 (O7 (Bj ⟨x.locals,x.stack,false⟩).1.1 (Bj ⟨x.locals,x.stack,false⟩).1.2);have h3:=Y.alloc (O7 (Bj ⟨x.locals,x.stack,false⟩).1.1 (Bj ⟨x.locals,x.stack,false⟩).1.2);have G3:=G2.alloc (O7 (Bj ⟨x.locals,x.stack,false⟩).1.1 (Bj ⟨x.locals,x.stack,false⟩).1.2);have U3:=Bg U2 (O7 (Bj ⟨x.locals,x.stack,false⟩).1.1 (Bj ⟨x.locals,x.stack,false⟩).1.2);have I3:=Bg I2 (O7 (Bj ⟨x.locals,x.stack,false⟩).1.1 (Bj ⟨x.locals,x.stack,false⟩).1.2);have R3:=Bg R2 (O7 (Bj ⟨x.locals,x.stack,false⟩).1.1 (Bj ⟨x.locals,x.stack,false⟩).1.2);go_wp2_with fail;refine Qm (L8 _ _ _ _ _ _ h3) ?_;rintro w4 ⟨v4,h4,C⟩;have G4:=G3.trans C;have U4:=C.stay t U3;have I4:=C.stay z I3;have R4:=C.stay l R3;replace t:=C.free t (Sp U3);replace z:=C.free z (Sp I3);replace l:=C.free l (Sp R3);have A4:=C.stay a1 A0;replace a1:=C.free a1 (Sp A0);have h0:=Yk (Bj ⟨x.locals,x.stack,false⟩).2;have d9:=h4.new (Bru _);have C0:=Be w4 (O7 (Bj (Bj ⟨x.locals,x.stack,false⟩).2).1.1 (Bj (Bj ⟨x.locals,x.stack,false⟩).2).1.2);have h5:=h4.alloc (O7 (Bj (Bj ⟨x.locals,x.stack,false⟩).2).1.1 (Bj (Bj ⟨x.locals,x.stack,false⟩).2).1.2);have G5:=G4.alloc (O7 (Bj (Bj ⟨x.locals,x.stack,false⟩).2).1.1 (Bj (Bj ⟨x.locals,x.stack,false⟩).2).1.2);have U5:=Bg U4 (O7 (Bj (Bj ⟨x.locals,x.stack,false⟩).2).1.1 (Bj (Bj ⟨x.locals,x.stack,false⟩).2).1.2);have I5:=Bg I4 (O7 (Bj (Bj ⟨x.locals,x.stack,false⟩).2).1.1 (Bj (Bj ⟨x.locals,x.stack,false⟩).2).1.2);have R5:=Bg R4 (O7 (Bj (Bj ⟨x.locals,x.stack,false⟩).2).1.1 (Bj (Bj ⟨x.locals,x.stack,false⟩).2).1.2);have A9:=Bg A4 (O7 (Bj (Bj ⟨x.locals,x.stack,false⟩).2).1.1 (Bj (Bj ⟨x.locals,x.stack,false⟩).2).1.2);obtain⟨y0,y1⟩:=cl2 A9;have ly:=Sp A9;simp at y0 y1;go_wp2_with fail;refine Qm (Nd _ _ _ _ _ _ (Bj ⟨x.locals,x.stack,false⟩).1.1 (Bj ⟨x.locals,x.stack,false⟩).1.2 h5 Ck) ?_;rintro w6 ⟨v6,h6,I⟩;have G6:=G5.trans I;have U6:=I.stay t U5;have I6:=I.stay z I5;have R6:=I.stay l R5;replace t:=I.free t (Sp U5);replace z:=I.free z (Sp I5);replace l:=I.free l (Sp R5);have A6:=I.stay a1 A9;replace a1:=I.free a1 (Sp A9);have C6:=I.stay d9 C0;replace d9:=I.free d9 (Sp C0);clear y0 y1 ly;obtain⟨y0,y1⟩:=cl2 C6;have ly:=Sp C6;simp at y0 y1;have j8:=Bba F ((Bj ⟨x.locals,x.stack,false⟩).1.1,(Bj ⟨x.locals,x.stack,false⟩).1.2) (Bj (Bj ⟨x.locals,x.stack,false⟩).2).2;go_wp2_with fail;refine(Nd _ _ _ _ _ _ (Bj (Bj ⟨x.locals,x.stack,false⟩).2).1.1 (Bj (Bj ⟨x.locals,x.stack,false⟩).2).1.2 h6 (by first|omega|(simp only;omega))).mono ?_
  rintro e w7 ⟨rfl,v7,h7,a6⟩;have G7:=G6.trans a6;have U7:=a6.stay t U6;have I7:=a6.stay z I6;have R7:=a6.stay l R6;replace t:=a6.free t (Sp U6);replace z:=a6.free z (Sp I6);replace l:=a6.free l (Sp R6);have hE:=h7;have GE:=G7;have RE:=R7
 rotate_left
 have n6:(op==6)=false:=Fr;have o6:=B;clear B;by_cases B:op=15
 case' pos =>
  subst B;have a3:PB=Ew (Ed F (4,pp) (K5 (4,pp) (0,0) ⟨x.locals,x.stack,false⟩)):=by rw[<- Ba a5];simp
  go_wp2_with fail;refine Qm (Bc1 pp _) ?_;intro w2 a9;have Y:=hA.below a9;have G2:=G1.trans (Bn.of_below _ a9);have U2:=stay a9 U1;have I2:=stay a9 I1;have R2:=stay a9 R1;go_wp2_with fail;refine Qm (Vr _) ?_;intro w3 b0;have h3:=Y.below b0;have G3:=G2.trans (Bn.of_below _ b0);have U3:=stay b0 U2;have I3:=stay b0 I2;have R3:=stay b0 R2;go_wp2_with fail;refine Qm (Aj _ _ _ _ _ _ 4 pp 0 0 h3) ?_;rintro w4 ⟨v4,h4,C⟩;have G4:=G3.trans C;have U4:=C.stay t U3;have I4:=C.stay z I3;have R4:=C.stay l R3;replace t:=C.free t (Sp U3);replace z:=C.free z (Sp I3);replace l:=C.free l (Sp R3);obtain⟨j0,j1,j2⟩:=cl3 I4;have lj:=Sp I4;simp at j0 j1 j2;go_wp2_with fail;refine Qm (Bc1 pp _) ?_;intro w5 b1;have h5:=h4.below b1;have G5:=G4.trans (Bn.of_below _ b1);have U5:=stay b1 U4;have I5:=stay b1 I4;have R5:=stay b1 R4;go_wp2_with fail;refine Qm (Nd _ _ _ _ _ _ 4 pp h5 (by simp[K5,Jl];omega)) ?_;rintro w6 ⟨v6,h6,I⟩;have G6:=G5.trans I;have U6:=I.stay t U5;have I6:=I.stay z I5;have R6:=I.stay l R5;replace t:=I.free t (Sp U5);replace z:=I.free z (Sp I5);replace l:=I.free l (Sp R5);have hE:=h6;have GE:=G6;have RE:=R6
 rotate_left
 have j9:(op==15)=false:=Fr;have h1:=B;clear B;by_cases B:op=16
 case' pos =>
  subst B;have a3:PB=Ew (W5 T g4 g5 (n:Int) ⟨x.locals,x.stack,false⟩):=by rw[<- Ba a5];simp
  go_wp2_with fail;refine Qm (Ba g8 _ _ _ _ (w1.alloc (O22 (.p tg) T.length tc ya A.length yc K N vc O Q V F false)) b6 hA) ?_;rintro w2 ⟨v2,Y,f⟩;have G2:=G1.trans f;have U2:=f.stay t U1;have I2:=f.stay z I1;have R2:=f.stay l R1;replace t:=f.free t (Sp U1);replace z:=f.free z (Sp I1);replace l:=f.free l (Sp R1);have hE:=Y;have GE:=G2;have RE:=R2
 rotate_left
 have k0:(op==16)=false:=Fr;have h8:=B;clear B
 case' neg =>
  have a3:PB=Ew (Gi F lv (Ga T tk ⟨x.locals,x.stack,false⟩)):=by rw[<- Ba a5];simp[o2,o3,o4,o5,o6,h1,h8]
  go_wp2_with fail;refine(Ba g6 _ b6).mono ?_;rintro e w2 ⟨a2,c2,rfl,h9,i3,b2⟩;have i4:TyF w2 w1.heap.size ⟨K,N,vc,O,Q,V⟩ a2 tk.length c2 tk:=⟨h9,fun g o e=>(i3 g o e).elim (fun hg=>hA.new hg) (fun hg=>hA.low hg)⟩;have Y:=hA.below b2;have G2:=G1.trans (Bn.of_below _ b2);have U2:=stay b2 U1;have I2:=stay b2 I1;have R2:=stay b2 R1;go_wp2_with fail;refine Qm (Rj _ _ _ _ _ _ a2 tk.length c2 tk Y i4 Ck) ?_;rintro w3 ⟨v3,h3,a7⟩;have G3:=G2.trans a7;have U3:=a7.stay t U2;have I3:=a7.stay z I2;have R3:=a7.stay l R2;replace t:=a7.free t (Sp U2);replace z:=a7.free z (Sp I2);replace l:=a7.free l (Sp R2);clear m0 m1 m2 m3 m4 m5 m6 m7 m8 m9 b7 b8 b9 c0 c1 i0 i1 i2;obtain⟨m0,m1,m2,m3,m4,m5,m6,m7,m8,m9,b7,b8,b9,c0,c1⟩:=Tk U3;have G:=Sp U3;simp at m0 m1 m2 m3 m4 m5 m6 m7 m8 m9 b7 b8 b9 c0 c1;obtain⟨j0,j1,j2⟩:=cl3 I3;have lj:=Sp I3;simp at j0 j1 j2;have i5:=b6.trans (G3.low hA);go_wp2_with fail;refine(Ba g7 _ i5).mono ?_;rintro e w4 ⟨a4,c4,rfl,i6,i7,b3⟩;have i8:TyF w4 w1.heap.size v3 a4 lv.length c4 lv:=⟨i6,fun g o e=>(i7 g o e).elim (fun hg=>h3.new hg) (fun hg=>h3.low hg)⟩;have h4:=h3.below b3;have G4:=G3.trans (Bn.of_below _ b3);have U4:=stay b3 U3;have I4:=stay b3 I3;have R4:=stay b3 R3;have k1:(Ga T tk ⟨x.locals,x.stack,false⟩).st.length<=1000:=Br5 (Zd _ _ _ _) g3;go_wp2_with fail;refine(Bdq _ _ _ _ _ _ a4 lv.length c4 lv h4 i8 (by first|omega|(simp only;omega))).mono ?_
  rintro e w5 ⟨rfl,v5,h5,a0⟩;have G5:=G4.trans a0;have U5:=a0.stay t U4;have I5:=a0.stay z I4;have R5:=a0.stay l R4;replace t:=a0.free t (Sp U4);replace z:=a0.free z (Sp I4);replace l:=a0.free l (Sp R4);have hE:=h5;have GE:=G5;have RE:=R5
 all_goals
  go_wp2_with fail;refine(Ky _ _ _ _ _ _ hE).mono ?_;rintro e k2 ⟨u,rfl,hu,i9,g0⟩;obtain⟨ua,un,uc,da,dn,dc⟩:=u;have c3:=g0.stay l RE;obtain⟨z0,z1⟩:=cl2 c3;obtain⟨q0,q1⟩:=fr2 c3;have lr:=Sp c3;simp at z0 z1;have g1:=b6.trans ((GE.trans g0).low hA);have k3:=g1.size;simp only[FrV.val];go_wp2_with fail;refine tb (.tuple #[.agg #[.s ua un uc,.s da dn dc],.bool PB.isSome]) (by simp[results,results221,go_sem,z0,z1,lr,a3]) ?_;refine⟨⟨ua,un,uc,da,dn,dc⟩,rfl,fun y hy=>?_,(g1.setCell Fr _).setCell Fr _⟩;rw[a3]at hy;obtain⟨e1,rfl⟩:=hu y hy;rw[e1];exact i9.frame.set2 c3 _ _
variable {ya:Option Addr}{yn yc:Nat}
def L4 (T:TI)(a b:TP):Bool:=if a.length=b.length then Ee T a b else false
def Km (T:TI)(x y:Bf):Bool:=L4 T x.locals y.locals&&L4 T x.stack y.stack
def Ao(T:TI)(m z:Nat)(a b:TP)(aa ab:TA)(an ac bn bc:Nat)(w:TW)(hl:T.length<=1000)(hT:Dy w m T)(ha:TyR w (.s aa an ac) a)(hb:TyR w (.s ab bn bc) b)(b3:a.length<=10000)(b4:b.length<=10000):Calls prog 218 #[.agg #[.s (.p m) T.length z,.s ya yn yc],.s aa an ac,.s ab bn bc] w fun e q=>e=.r (.bool (L4 T a b))/\Bl w q:=by
 obtain⟨e1,-,-⟩:=ha.cap;obtain⟨e2,-,-⟩:=hb.cap;subst e1 e2;unfold L4;have I:Bl w (w.alloc (O2 (.p m) T.length z ya yn yc)):=QN _;have T0:=Be w (O2 (.p m) T.length z ya yn yc);by_cases h:a.length=b.length
 ·rw[Th h];generalize j:Ee T a b=r;have B:Hid (Ee T (a.drop 0) (b.drop 0)=r):=j;have a9:((a.length:Int) != (b.length:Int))=false:=by simp[h]
  have b0:=Bc h;clear j h;go_in;go_wp2
  go_loopw [16] (fun v wr=>∃k:Nat,k<=a.length/\v=.i (k:Int)/\Hid (Ee T (a.drop k) (b.drop k)=r)/\Bl w wr/\wr.heap[w.heap.size]?=some (O2 (.p m) T.length z ya yn yc))
   (fun v _=>a.length-(intOf v).toNat)
  case atStart=>exact⟨0,Ck,rfl,B,I,T0⟩
  case round=>
   clear B I T0;obtain⟨k,hk,rfl,B,D,F⟩:=hrel;have b1:=D.size;have h:=Ba b0;by_cases a0:k<a.length
   ·have a1:k<b.length:=Ck;obtain⟨g,o,rfl,hg,a2⟩:=(ha.below D).at Ck;obtain⟨g2,G,rfl,a3,a4⟩:=(hb.below D).at Ck;obtain⟨x0,x1⟩:=a2 k a0;obtain⟨J,K⟩:=a4 k a1;have a5:a.drop k=a[k]::a.drop (k+1):=Brj a0;have a6:b.drop k=b[k]::b.drop (k+1):=Brj a1;have j:=Ba B;rw[a5,a6,Ee]at j;generalize a[k]=s at *;generalize b[k]=t at *;obtain⟨c,f⟩:=s;obtain⟨L,N⟩:=t;simp only at x0 x1 J K j;have O:(wr.alloc (O7 c f)).C w.heap.size 0 (.s (.p m) T.length z):=(Bb (Bg F (O7 c f)) 0).trans rfl;have Q:(wr.alloc (O7 c f)).C w.heap.size 1 (.s ya yn yc):=(Bb (Bg F (O7 c f)) 1).trans rfl;have V:(wr.alloc (O7 c f)).C wr.heap.size 0 (.i c):=(Bb (Be wr (O7 c f)) 0).trans rfl;have Y:(wr.alloc (O7 c f)).C wr.heap.size 1 (.i f):=(Bb (Be wr (O7 c f)) 1).trans rfl;have Z:=(Bsu wr (O7 c f) ⟨g2,G+k*2,none⟩ a3).trans J;have z1:=(Bsu wr (O7 c f) ⟨g2,G+k*2+1,none⟩ a3).trans K;have lF:=Sp (Bg F (O7 c f));have lP:=Sp (Be wr (O7 c f));have lG:g2<(wr.alloc (O7 c f)).heap.size:=Fr;have a7:=(D.alloc b1 (O7 c f)).drew;have hc:=Bam (ya:=ya) (yn:=yn) (yc:=yc) T m z c f L N _ hl (hT.below a7);generalize Tr.fitsB T c f L N=A at *;have HC:=Bc hc;have kb:(k:Int)<(a.length:Int):=Ck;have b5:(k:Int)<(b.length:Int):=Ck;clear a2 a4 a5 a6 hc B h;go_wp2
    go_region_held3 (fun q=>q.C w.heap.size 0 (.s (.p m) T.length z)/\q.C w.heap.size 1 (.s ya yn yc)/\q.C wr.heap.size 0 (.i c)/\q.C wr.heap.size 1 (.i f)/\q.C g2 (G+k*2) (.i L)/\q.C g2 (G+k*2+1) (.i N))
     (first|exact⟨O,Q,V,Y,Z,z1⟩|exact⟨QC l lF O,QC l lF Q,QC l lP V,QC l lP Y,QC l lG Z,QC l lG z1⟩)
     (first|(go_at_call 118;refine(Ba HC).mono ?_;rintro e w7 ⟨rfl,l⟩))
    have a8:=QB a7 l;have b2:=stay l (show (wr.alloc (O7 c f)).drew.heap[w.heap.size]?=_ from Bg F (O7 c f));clear l x0 x1 J K Z z1 O Q V Y HC;cases A with
    | true =>
     have HG:Hid (Ee T (a.drop (k+1)) (b.drop (k+1))=r):=by unfold Hid;rw[<- j];simp
     clear j;go_wp2;go_roundw
     case rel=>exact⟨k+1,Ck,Mg,HG,a8,b2⟩
     case measure=>simp[intOf];omega
    | false =>
     have HE:Hid (r=false):=by unfold Hid;rw[<- j];simp
     clear j;go_wp2;go_ret;exact⟨by rw[Ba HE];rfl,a8⟩
   have HE:Hid (r=true):=by unfold Hid;rw[<- Ba B,Brq (show b.length<=k by omega),Ee]
   have kb:¬(k:Int)<(a.length:Int):=Ck;clear B h;go_wp2;go_ret;exact⟨by rw[Ba HE];rfl,D⟩
 rw[Pk h];have a9:((a.length:Int) != (b.length:Int))=true:=Fr;clear h;go_in;go_wp2;go_ret;exact⟨rfl,I⟩
def Bjq(T:TI)(f g:Nat)(u v:FrV)(x y:Bf)(w:TW)(t:T.length<=1000)(z:Dy w f T)(i:u.is x w)(j:v.is y w):Calls prog 167 #[u.val,.agg #[.s (.p f) T.length g,.s ya yn yc],v.val] w fun e b=>e=.r (.bool (Km T x y))/\Bl w b:=by
 have m:=fun b (h:Bl w b)=>Ao (ya:=ya) (yn:=yn) (yc:=yc) T f g x.locals y.locals u.la v.la u.ln u.lc v.ln v.lc b t (z.below h) (i.lo.below h) (j.lo.below h) (by have:=i.hl;omega) (by have:=j.hl;omega);have q:=fun b (h:Bl w b)=>Ao (ya:=ya) (yn:=yn) (yc:=yc) T f g x.stack y.stack u.sa v.sa u.sn u.sc v.sn v.sc b t (z.below h) (i.st.below h) (j.st.below h) (by have:=i.hs;omega) (by have:=j.hs;omega);unfold Km;generalize L4 T x.locals y.locals=P at *;generalize L4 T x.stack y.stack=Q at *;obtain⟨A,B,C,D,F,G⟩:=u;obtain⟨I,J,K,L,N,O⟩:=v;simp only[FrV.val]at m q ⊢;have V:=Bc m;have H2:=Bc q;clear m q i j;have l:=Em w (O23 A B C D F G) (O2 (.p f) T.length g ya yn yc) (O23 I J K L N O);obtain⟨A0,Y,B0⟩:=Nz w (O23 A B C D F G) (O2 (.p f) T.length g ya yn yc) (O23 I J K L N O);cases P with
 | false =>
  go_in;go_wp2_with fail;refine Qm (Ba V _ l) ?_;intro w1 c;go_wp2;go_ret;exact⟨rfl,QB l c⟩
 | true =>
  go_in;go_wp2_with fail;refine Qb (Ba V _ l) l ?_;intro w1 c Z;have a1:=Bb (stay c A0) 1;have t0:=Bb (stay c Y) 0;have t1:=Bb (stay c Y) 1;have b1:=Bb (stay c B0) 1;simp at a1 t0 t1 b1;clear c;go_wp2_with fail;refine Qm (Ba H2 _ Z) ?_;intro w2 a0;go_wp2;go_ret;exact⟨rfl,QB Z a0⟩
def Bhi(m:Int)(v:FrV)(w:TW):Calls prog 233 #[.agg #[.i m,.s v.la v.ln v.lc,.s v.sa v.sn v.sc]] w fun e b=>e=.returned v.val/\Bl w b:=by
 obtain⟨c,f,g,h,j,l⟩:=v;simp only[FrV.val];go_in;go_wp2;refine tb (.agg #[.s c f g,.s h j l]) (by simp[results,results233,go_sem]) ?_;exact⟨rfl,Bu _ _ _⟩
def Bh4(c:Int)(v:FrV)(x:Bf)(w:TW)(D:v.is x w):Calls prog 261 #[v.val,.i c] w fun e m=>∃u:FrV,e=.returned u.val/\u.is ⟨x.locals,[(3,c)]⟩ m/\Bl w m:=by
 obtain⟨b,f,g,q,t,z⟩:=v;have F:=D.lo;have V:=D.hl;simp only[FrV.val]at F ⊢;clear D;have Y:=Bu w (O23 b f g q t z) (O23 none 0 0 none 0 0);have G:=Cb w (O23 b f g q t z) (O23 none 0 0 none 0 0);have I:=Bx w (O23 b f g q t z) (O23 none 0 0 none 0 0);have A:((w.alloc (O23 b f g q t z)).alloc (O23 none 0 0 none 0 0)).C w.heap.size 0 (.s b f g):=(Bb G 0).trans rfl;have B:=Sp G;have lR:=Sp I;go_in;go_wp2
 go_region_held3 (fun m=>m.C w.heap.size 0 (.s b f g))
  (first|exact A|exact QC j B A|exact QA (QL j B) (QC j B A)|exact(Bsu _ _ _ (by have:=j.size;simp at this ⊢;omega)).trans ((Brt _ _ _ _ Bd).trans ((Brt _ _ _ _ Bd).trans (QC j B A))))
  (first|(go_at_call 165;refine Qm (Ma c _) ?_;intro h j;have l:=stay j (show _=_ from I);have J:=Bb l 0;have K:=Bb l 1;have q0:=Bk l 0;have q1:=Bk l 1;have Z:=Sp l;simp at J K))
 have L:=Y.drew.trans (j.mono Fr);have a1:=L.size;have N:((h.setCell (.a (w.heap.size+1) 0) (.s b f g)).setCell (.a (w.heap.size+1) 1) (.s (.p h.heap.size) 1 1)).heap.size=h.heap.size:=by simp[World.setCell]
 have O:=TyR.new1 ((h.setCell (.a (w.heap.size+1) 0) (.s b f g)).setCell (.a (w.heap.size+1) 1) (.s (.p h.heap.size) 1 1)) 3 c;rw[N]at O;have Q:=((L.setCell (p:=.a (w.heap.size+1) 0) Hd (.s b f g)).setCell (p:=.a (w.heap.size+1) 1) Hd (.s (.p h.heap.size) 1 1)).alloc (by rw[N];exact a1) (O7 3 c);go_wp2_with fail;refine tb (.agg #[.s b f g,.s (.p h.heap.size) 1 1]) (by simp[results,results261,go_sem,J,K,Z]) ?_;exact⟨⟨b,f,g,some ⟨h.heap.size,0,none⟩,1,1⟩,rfl,⟨F.below Q,O,V,Hd⟩,Q⟩
def Fo (h:Rd.Hnd)(p:Int):Bool:=decide (h.frm<=p)&&decide (p<h.til)
def Af(h:Rd.Hnd)(p:Int)(w:TW):Calls prog 260 #[.agg #[.i h.frm,.i h.til,.i h.target,.i h.cl],.i p] w fun e c=>e=.r (.bool (Fo h p))/\Bl w c:=by
 obtain⟨f,g,l,m⟩:=h;unfold Fo;by_cases j:f<=p
 ·by_cases b:p<g;·go_in;go_wp2;go_ret;exact⟨by simp[j,b],QN _⟩
  go_in;go_wp2;go_ret;exact⟨by simp[b],QN _⟩
 go_in;go_wp2;go_ret;exact⟨Fr,QN _⟩
def Bfe(op:Int)(w:TW):Calls prog 222 #[.i op] w fun e b=>e=.r (.bool (Ei op))/\b=w:=by
 unfold Ei;by_cases h:op=11\/op=12\/op=13\/op=14
 ·rw[Bt5 h];rcases h with rfl|rfl|rfl|rfl
  all_goals
   go_in;go_wp2;go_ret;exact⟨rfl,rfl⟩
 rw[Buk h];have c:(op==11)=false:=Fr;have f:(op==12)=false:=Fr;have g:(op==13)=false:=Fr;have j:(op==14)=false:=Fr;clear h;go_in;go_wp2;go_ret;exact⟨rfl,rfl⟩
def Z9(op:Int)(w:TW):Calls prog 187 #[.i op] w fun e b=>e=.r (.bool (Dl op))/\b=w:=by
 unfold Dl;by_cases h:op=11\/op=22\/op=23
 ·rw[Buk (fun g=>g h)];rcases h with rfl|rfl|rfl
  all_goals
   go_in;go_wp2;go_ret;exact⟨rfl,rfl⟩
 rw[Bt5 h];have c:(op==11)=false:=Fr;have f:(op==22)=false:=Fr;have j:(op==23)=false:=Fr;clear h;go_in;go_wp2;go_ret;exact⟨rfl,rfl⟩
def Bg6(m:PM)(c:TP)(f:Nat)(w:TW)(c7:m.lo=(f:Int))(d6:f<=1000)(b1:TyR w (.s m.pa m.pl m.pc) c)(d7:c.length<=1000):Calls prog 110 #[m.val] w fun e w'=>∃v:FrV,e=.returned v.val/\v.is (Lg m.cl c f) w'/\Bl w w':=by
 obtain⟨i0,hi,b2,b3,b4⟩:=Bsa Tryz.infoType;obtain⟨p,nm,I,J,K,r1,r2,lo,st,ca,cn,cc,ha,hl,hc,ma,ml,mc⟩:=m;simp only[PM.val]at c7 b1 ⊢;subst c7;have c8:=fun w=>Ma p w;have d2:=Bc c8;clear c8;have a0:=Bu w (O18 p nm I J K r1 r2 (f:Int) st ca cn cc ha hl hc ma ml mc) (O23 none 0 0 none 0 0);have C0:=Cb w (O18 p nm I J K r1 r2 (f:Int) st ca cn cc ha hl hc ma ml mc) (O23 none 0 0 none 0 0);have D0:=Bx w (O18 p nm I J K r1 r2 (f:Int) st ca cn cc ha hl hc ma ml mc) (O23 none 0 0 none 0 0);unfold Lg;generalize hO:Iy p c=O;unfold Iy at hO
 -- what follows the head, for either head
 by_cases h1:p=255
 ·subst h1;rw[Th rfl,Btz]at hO;subst hO;go_in;go_wp2_with (at_builtin;refine Jo rfl _ _ rfl (w.heap.size+1+1) _ [] c I J K rfl (Brw _ _ _ _) rfl (b1.below a0) Fr Hd ?_)
  intro v' w1 a1 C;have L:=a0.grown C Fr (fun j D=>by simp[Value.ownBlock]at D);have C1:=(C.block _ (Sp C0) (by simp[Value.ownBlock])).trans C0;have D1:=(C.block _ (Sp D0) (by simp[Value.ownBlock])).trans D0;clear C C0 D0 a0;have b5:=L.size;have a2:w1.ownsRow (w.heap.size+1+1) 31 2 v' (c++List.replicate 0 ((0:Int),(0:Int))).length (Bp (c++List.replicate 0 ((0:Int),(0:Int)))):=by simpa using a1
  go_wp2
  go_loopw [3] (fun v wr=>∃q:Nat,q<=f-c.length/\wr.ownsRow (w.heap.size+1+1) 31 2 v (c.length+q) (Bp (c++List.replicate q ((0:Int),(0:Int))))/\Bl w wr/\wr.heap[w.heap.size]?=some (O18 255 nm I J K r1 r2 (f:Int) st ca cn cc ha hl hc ma ml mc)/\wr.heap[w.heap.size+1]?=some (O23 none 0 0 none 0 0))
   (fun v _=>f-lenOf v)
  case atStart=>exact⟨0,Ck,by simpa using a2,L,C1,D1⟩
  case round=>
   clear a1 a2 L C1 D1 b5;obtain⟨q,hq,h,z,t,l⟩:=hrel;have N:=z.size;have lC:=Sp t;have lD:=Sp l;obtain⟨Q,V,rfl⟩:=Bh h;have x5:=Bb t 5;simp at x5;by_cases d3:c.length+q<f
   ·have kb:((c.length+q:Nat):Int)<(f:Int):=Ck;have HD:Hid (c++List.replicate (q+1) ((0:Int),(0:Int))=c++List.replicate q ((0:Int),(0:Int))++[((0:Int),(0:Int))]):=by unfold Hid;rw[Bue,Bsi]
    go_wp2_with fail;refine Qm (Vr _) ?_;intro wt A;replace h:=Dc h (Kp.of_below (e:=none) A) Fm;replace z:=z.trans (A.mono N);replace t:=stay A t;replace l:=stay A l;replace N:=z.size;replace lC:=Sp t;replace lD:=Sp l;clear A x5;go_wp2_with (at_builtin;refine Br3 _ rfl _ _ 105 rfl (w.heap.size+1+1) 31 i0 _ 2 16 Bsk hi b2 b3 b4 rfl Fm _ _ _ rfl (h.alloc _) ⟨wt.heap.size,0,none⟩ 1 1 [.i 0,.i 0] rfl rfl ?c1 ?c2 ?c3 ?c4 ?c5 ?_)
    case c1=>exact Dh _ _ _ _ rfl
    case c2=>intro u G;simp at G;subst G;rfl
    case c3=>unfold maxLen;omega
    case c4=>omega
    case c5=>simp;omega
    intro v2 w2 Y F _;have b6:=(z.alloc N (O7 0 0)).grown F Fr (fun j D=>by have:=(h.lt j D).1;omega);have C2:=(F.block _ (Sp (Bg t (O7 0 0))) (fun B=>by have:=(h.lt _ B.symm).1;omega)).trans (Bg t (O7 0 0));have D2:=(F.block _ (Sp (Bg l (O7 0 0))) (fun B=>by have:=(h.lt _ B.symm).1;omega)).trans (Bg l (O7 0 0));obtain⟨b7,b8,rfl⟩:=Bh Y;have Z:w2.ownsRow (w.heap.size+1+1) 31 2 (.s b7 (c.length+q+1) b8) (c.length+(q+1)) (Bp (c++List.replicate (q+1) ((0:Int),(0:Int)))):=by rw[Ba HD,Ib];exact Y
    clear F h Y z t l;go_wp2;go_roundw
    case rel=>exact⟨q+1,Ck,Z,b6,C2,D2⟩
    case measure=>simp[lenOf];omega
   have kb:¬((c.length+q:Nat):Int)<(f:Int):=Ck;have eq:f-c.length=q:=Ck;obtain⟨z0,z1⟩:=cl2 l;obtain⟨q0,q1⟩:=fr2 l;simp at z0 z1;have b9:=(Kp.set_lo (e:=none) (b:=w.heap.size+1+1) (i:=0) (g:=w.heap.size+1) (w:=wr) Ck (.s Q (c.length+q) V)).trans (Kp.set_lo (i:=1) (g:=w.heap.size+1) Ck (.s none 0 0));have Z:=Dc h b9 Fm;have a3:=Bc eq;clear eq;go_wp2_with fail;refine tb (.agg #[.s Q (c.length+q) V,.s none 0 0]) (by simp[results,results110,go_sem,z0,z1]) ?_;refine⟨⟨Q,c.length+q,V,none,0,0⟩,rfl,⟨?_,TyR.nil _,?_,Bsb _⟩,(z.setCell Hd _).setCell Hd _⟩
   ·rw[Ba a3];exact Gw Z Hd
   rw[Ba a3];simp;omega
 have d8:(p != 255)=true:=by simpa using h1
 rw[Pk h1]at hO;clear h1;go_in;go_wp2_with fail;refine Qb (Ba d2 _) a0 ?_;intro w0 c0 c6;have a4:=stay c0 C0;have a7:=stay c0 D0;have d4:=c6.size;have d9:=Sp a7;have x2:=Bb a4 2;have f0:=Sp a4;simp at x2;go_wp2_with (at_builtin;refine Br3 _ rfl _ _ 105 rfl (w.heap.size+1+1) 31 i0 _ 2 16 Bsk hi b2 b3 b4 rfl Fm _ _ _ rfl (Brw _ _ _ _) ⟨w0.heap.size,0,none⟩ 1 1 [.i 3,.i p] rfl rfl ?c1 ?c2 ?c3 ?c4 ?c5 ?_)
 case c1=>exact Dh _ _ _ _ rfl
 case c2=>intro u G;simp at G;rcases G with rfl|rfl<;>rfl
 case c3=>unfold maxLen;omega
 case c4=>omega
 case c5=>simp;omega
 intro v0 d5 c9 a8 _;have a9:=(c6.alloc d4 (O7 3 p)).grown a8 Fr (fun j D=>by simp[Value.ownBlock]at D);have a5:=(a8.block _ (Sp (Bg a4 (O7 3 p))) (by simp[Value.ownBlock])).trans (Bg a4 (O7 3 p));have b0:=(a8.block _ (Sp (Bg a7 (O7 3 p))) (by simp[Value.ownBlock])).trans (Bg a7 (O7 3 p));have a6:d5.ownsRow (w.heap.size+1+1) 31 2 v0 ([((3:Int),p)]:TP).length (Bp [((3:Int),p)]):=by simpa[Bp] using c9
 have f1:=a9.size;have f2:=Sp b0;have f3:=Sp a5;have d0:=Bb a5 2;simp at d0;clear a8 c9 C0 D0 a0 c0 a4 a7 c6 x2;go_wp2_with (at_builtin;refine Jo rfl _ _ rfl (w.heap.size+1+1) _ [(3,p)] c I J K rfl a6 rfl (b1.below a9) Fr Ck ?_)
 intro v' w1 a1 C;have L:=a9.grown C Ck (fun j D=>by have:=(a6.lt j D).1;omega);have C1:=(C.block _ (Sp a5) (fun B=>by have:=(a6.lt _ B.symm).1;omega)).trans a5;have D1:=(C.block _ (Sp b0) (fun B=>by have:=(a6.lt _ B.symm).1;omega)).trans b0;have d1:([((3:Int),p)]++c).length<=1001:=Fr;have a2:w1.ownsRow (w.heap.size+1+1) 31 2 v' O.length (Bp O):=a1;rw[hO]at d1;have f4:=d1;clear C a5 b0 a9 a6 a1 hO d0;have b5:=L.size;go_wp2
 go_loopw [3] (fun v wr=>∃q:Nat,q<=f-O.length/\wr.ownsRow (w.heap.size+1+1) 31 2 v (O.length+q) (Bp (O++List.replicate q ((0:Int),(0:Int))))/\Bl w wr/\wr.heap[w.heap.size]?=some (O18 p nm I J K r1 r2 (f:Int) st ca cn cc ha hl hc ma ml mc)/\wr.heap[w.heap.size+1]?=some (O23 none 0 0 none 0 0))
  (fun v _=>f-lenOf v)
 case atStart=>exact⟨0,Ck,by simpa using a2,L,C1,D1⟩
 case round=>
  clear a2 L C1 D1 b5;obtain⟨q,hq,h,z,t,l⟩:=hrel;have N:=z.size;have lC:=Sp t;have lD:=Sp l;obtain⟨Q,V,rfl⟩:=Bh h;have x5:=Bb t 5;simp at x5;by_cases d3:O.length+q<f
  ·have kb:((O.length+q:Nat):Int)<(f:Int):=Ck;have HD:Hid (O++List.replicate (q+1) ((0:Int),(0:Int))=O++List.replicate q ((0:Int),(0:Int))++[((0:Int),(0:Int))]):=by unfold Hid;rw[Bue,Bsi]
   go_wp2_with fail;refine Qm (Vr _) ?_;intro wt A;replace h:=Dc h (Kp.of_below (e:=none) A) Fm;replace z:=z.trans (A.mono N);replace t:=stay A t;replace l:=stay A l;replace N:=z.size;replace lC:=Sp t;replace lD:=Sp l;clear A x5;go_wp2_with (at_builtin;refine Br3 _ rfl _ _ 105 rfl (w.heap.size+1+1) 31 i0 _ 2 16 Bsk hi b2 b3 b4 rfl Fm _ _ _ rfl (h.alloc _) ⟨wt.heap.size,0,none⟩ 1 1 [.i 0,.i 0] rfl rfl ?c1 ?c2 ?c3 ?c4 ?c5 ?_)
   case c1=>exact Dh _ _ _ _ rfl
   case c2=>intro u G;simp at G;subst G;rfl
   case c3=>unfold maxLen;omega
   case c4=>omega
   case c5=>simp;omega
   intro v2 w2 Y F _;have b6:=(z.alloc N (O7 0 0)).grown F Fr (fun j D=>by have:=(h.lt j D).1;omega);have C2:=(F.block _ (Sp (Bg t (O7 0 0))) (fun B=>by have:=(h.lt _ B.symm).1;omega)).trans (Bg t (O7 0 0));have D2:=(F.block _ (Sp (Bg l (O7 0 0))) (fun B=>by have:=(h.lt _ B.symm).1;omega)).trans (Bg l (O7 0 0));obtain⟨b7,b8,rfl⟩:=Bh Y;have Z:w2.ownsRow (w.heap.size+1+1) 31 2 (.s b7 (O.length+q+1) b8) (O.length+(q+1)) (Bp (O++List.replicate (q+1) ((0:Int),(0:Int)))):=by rw[Ba HD,Ib];exact Y
   clear F h Y z t l;go_wp2;go_roundw
   case rel=>exact⟨q+1,Ck,Z,b6,C2,D2⟩
   case measure=>simp[lenOf];omega
  have kb:¬((O.length+q:Nat):Int)<(f:Int):=Ck;have eq:f-O.length=q:=Ck;obtain⟨z0,z1⟩:=cl2 l;obtain⟨q0,q1⟩:=fr2 l;simp at z0 z1;have b9:=(Kp.set_lo (e:=none) (b:=w.heap.size+1+1) (i:=0) (g:=w.heap.size+1) (w:=wr) Ck (.s Q (O.length+q) V)).trans (Kp.set_lo (i:=1) (g:=w.heap.size+1) Ck (.s none 0 0));have Z:=Dc h b9 Fm;have a3:=Bc eq;clear eq;go_wp2_with fail;refine tb (.agg #[.s Q (O.length+q) V,.s none 0 0]) (by simp[results,results110,go_sem,z0,z1]) ?_;refine⟨⟨Q,O.length+q,V,none,0,0⟩,rfl,⟨?_,TyR.nil _,?_,Bsb _⟩,(z.setCell Hd _).setCell Hd _⟩
  ·rw[Ba a3];exact Gw Z Hd
  rw[Ba a3];simp;omega
def PBd.pval(b:PBd):Value:=.agg #[.slice (some ⟨b.tg,0,none⟩) b.T.length b.tc,.slice b.ya b.yn b.yc,.int .i64 b.cl,.int .i64 b.nm,.slice b.pa b.pl b.pc,.int .i64 b.r1,.int .i64 b.r2,.int .i64 b.lo,.int .i64 b.st,.slice b.ca b.cn b.cc,.slice b.ha b.hl b.hc,.slice b.ma b.ml b.mc,.slice b.la b.L.length b.lc,
 .slice b.fa1 b.fl1 b.fc1,.slice b.fa2 b.fl2 b.fc2,.slice (some ⟨b.tg,0,none⟩) b.T.length b.tc,.slice b.ya b.yn b.yc,.int .i64 b.cl,.int .i64 b.nm,.slice b.pa b.pl b.pc,.int .i64 b.r1,.int .i64 b.r2,.int .i64 b.lo,.int .i64 b.st,.slice b.ca b.cn b.cc,.slice b.ha b.hl b.hc,.slice b.ma b.ml b.mc,.slice b.la b.L.length b.lc]
def Tryz.infoPass:(prog.info? 212).map (·.size)=some 28:=Lt
def Ob (b:PBd)(mp:Int->Option Bf)(w:TW):Prop:=∀q w',Below w.heap.size w w'->Calls Tryz.prog 185 #[b.pval,.int .i64 q] w' fun e w''=>∃u:FrV,e=.returned (.tuple #[u.val,.bool (mp q).isSome])/\u.is (Cu (mp q)) w''/\Below w'.heap.size w' w''
def Ob.below{b:PBd}{mp:Int->Option Bf}{w s:TW}(h:Ob b mp w)(c:Bl w s):Ob b mp s:=fun q e f=>h q e (c.trans (f.mono c.size))
def Bg7(b:PBd)(c:List (Rd.Mp×Value×Value))(bb:Nat)(p:Int)(w:TW)(a6:b.ml=c.length)(c8:c.length<=1000)(a7:∀q∈c,q.1.locals.length<=5000/\q.1.stack.length<=5000)(hh:Mf w bb (.s b.ma b.ml b.mc) c):Calls prog 185 #[b.pval,.i p] w fun e F=>∃v:FrV,e=.r (.tuple #[v.val,.bool (Gc p (c.map Prod.fst)).isSome])/\v.is (Cu (Gc p (c.map Prod.fst))) F/\Bl w F:=by
 generalize f:Gc p (c.map Prod.fst)=r;have D:Hid (Gc p ((c.map Prod.fst).drop 0)=r):=f;obtain⟨a8,a9,b0,b1,b2,b3,O,Q,ya,yn,yc,V,Y,Z,pl,pc,r1,r2,lo,st,ca,cn,cc,ha,hl,hc,I,ml,J,la,lc,T,L⟩:=b;simp only at a6 hh;subst a6;simp only[PBd.pval];have c1:Hid (∀F,Bl w F->Mf F bb (.s I c.length J) c):=fun F h=>hh.kp (Kp.of_below (e:=none) h) Fm Fm;have c2:=Bc a7;clear f hh a7;have b4:=Bu w ((O25 (.p O) T.length Q ya yn yc V Y Z pl pc r1 r2 lo st ca cn cc ha hl hc I c.length J la L.length lc a8 a9 b0 b1 b2 b3 (.p O) T.length Q ya yn yc V Y Z pl pc r1 r2 lo st ca cn cc ha hl hc I c.length J la L.length lc)) (O23 none 0 0 none 0 0);have R0:=Bx w ((O25 (.p O) T.length Q ya yn yc V Y Z pl pc r1 r2 lo st ca cn cc ha hl hc I c.length J la L.length lc a8 a9 b0 b1 b2 b3 (.p O) T.length Q ya yn yc V Y Z pl pc r1 r2 lo st ca cn cc ha hl hc I c.length J la L.length lc)) (O23 none 0 0 none 0 0);go_in;go_wp2
 go_loopw [12] (fun v wr=>∃k:Nat,k<=c.length/\v=.i (k:Int)/\Hid (Gc p ((c.map Prod.fst).drop k)=r)/\Bl w wr/\wr.heap[w.heap.size+1]?=some (O23 none 0 0 none 0 0))
  (fun v _=>c.length-(intOf v).toNat)
 case atStart=>exact⟨0,Ck,rfl,D,b4,R0⟩
 case round=>
  clear D b4 R0;obtain⟨k,hk,rfl,D,hB,CR⟩:=hrel;have c3:=hB.size;have lR:=Sp CR;by_cases j:k<c.length
  ·have b5:=Ba c1 _ hB;obtain⟨g,hg,c9,_,a0⟩:=Cf b5.1 Ck;have y0:=(a0 _ (Eh c k j 0 Ck).2).trans (Eh c k j 0 Ck).1;have y1:=(a0 _ (Eh c k j 1 Ck).2).trans (Eh c k j 1 Ck).1;have y2:=(a0 _ (Eh c k j 2 Ck).2).trans (Eh c k j 2 Ck).1;obtain⟨a3,a4⟩:=b5.2 _ (Brn j);obtain⟨b6,b7⟩:=Ba c2 _ (Brn j);have hd:(c.map Prod.fst).drop k=c[k].1::(c.map Prod.fst).drop (k+1):=by rw[Brj (by simpa using j)];simp
   have f:=Ba D;rw[hd,Gc]at f;generalize c[k]=x at *;obtain⟨⟨l,m,t⟩,v1,v2⟩:=x;simp only at y0 y1 y2 a3 a4 b6 b7 f;obtain⟨z,A,rfl⟩:=Bh a3;obtain⟨B,C,rfl⟩:=Bh a4;simp at y0 y1 y2;subst hg;have kb:(k:Int)<(c.length:Int):=Ck;have b8:=hB.alloc c3 (O17 l z m.length A B t.length C);have b9:=Bg CR (O17 l z m.length A B t.length C);clear a0 hd D;by_cases G:l=p
   ·rw[Th G]at f;have c4:(l==p)=true:=by simp[G]
    have HE:=Bc f;have a5:=Bhi l ⟨z,m.length,A,B,t.length,C⟩ (wr.alloc (O17 l z m.length A B t.length C));simp only[FrV.val]at a5;have c5:=Bc a5;clear f G a5;go_wp2_with fail;refine Qm (Ba c5) ?_;intro w1 a1;have a2:=stay a1 b9;obtain⟨K,N⟩:=cl2 a2;obtain⟨q0,q1⟩:=fr2 a2;have lr:=Sp a2;simp at K N;have c0:=QB b8 a1;have d0:=c0.size;have c6:=(TyR.of_tys a3).below ((QN (O17 l z m.length A B t.length C)).trans (a1.mono Hd));have c7:=(TyR.of_tys a4).below ((QN (O17 l z m.length A B t.length C)).trans (a1.mono Hd));go_wp2_with fail;obtain rfl:=Ba HE;refine tb (.tuple #[.agg #[.s z m.length A,.s B t.length C],.bool true]) (by simp[results,results185,go_sem,K,N]) ?_;exact⟨⟨z,m.length,A,B,t.length,C⟩,rfl,FrV.is.set2 ⟨c6,c7,b6,b7⟩ a2 _ _,(c0.setCell Hd _).setCell Hd _⟩
   rw[Pk G]at f;have c4:(l==p)=false:=by simp[G]
   have HG:Hid (Gc p ((c.map Prod.fst).drop (k+1))=r):=f;clear f G;go_wp2;go_roundw
   case rel=>exact⟨k+1,Ck,Mg,HG,b8,b9⟩
   case measure=>simp[intOf];omega
  have HE:Hid (none=r):=by unfold Hid;rw[<- Ba D,Brq Fr,Gc]
  have kb:¬(k:Int)<(c.length:Int):=Ck;obtain⟨K,N⟩:=cl2 CR;obtain⟨q0,q1⟩:=fr2 CR;simp at K N;clear D;go_wp2_with fail;obtain rfl:=Ba HE;refine tb (.tuple #[.agg #[.s none 0 0,.s none 0 0],.bool false]) (by simp[results,results185,go_sem,K,N]) ?_;exact⟨⟨none,0,0,none,0,0⟩,rfl,⟨TyR.nil _,TyR.nil _,by simp[Cu],by simp[Cu]⟩,(hB.setCell Hd _).setCell Hd _⟩
def Ic (T:TI)(mp:Int->Option Bf)(x:Bf)(q:Int):Bool:=!(mp q).isSome || Km T x (Cu (mp q))
def Jj (T:TI)(mp:Int->Option Bf)(x:Bf)(q:Int):Int:=if (mp q).isSome=false then 8 else if Ic T mp x q=false then 9 else 0
def P4 (T:TI)(mp:Int->Option Bf)(len:Int)(x:Bf)(q:Int):Int:=if len<=q then 11 else if Ic T mp x q=false then 9 else 0
def Um(b:PBd)(mp:Int->Option Bf)(v:FrV)(x:Bf)(q:Int)(w:TW)(hl:b.T.length<=1000)(hT:Dy w b.tg b.T)(hM:Ob b mp w)(hv:v.is x w):Calls prog 184 #[b.pval,v.val,.i q] w fun e f=>e=.r (.bool (Ic b.T mp x q))/\Bl w f:=by
 have a2:=fun f h=>hM q f h;have a3:=fun (u:FrV) y f (h:Bl w f) hu=>Bjq (ya:=b.ya) (yn:=b.yn) (yc:=b.yc) b.T b.tg b.tc v u x y f hl (hT.below h) (hv.below h) hu;unfold Ic;generalize mp q=M at *;obtain⟨a4,a5,a6,a7,a8,a9,g,j,ya,yn,yc,l,m,s,t,A,B,C,D,F,G,cn,I,J,K,N,O,Q,V,Y,Z,T,L⟩:=b;obtain⟨xa,xn,xc,za,zn,zc⟩:=v;simp only[PBd.pval,FrV.val]at a2 a3 ⊢;have HM:=Bc a2;have b1:=Bc a3;clear a2 a3 hM hT hv;have a1:=Bu w ((O25 (.p g) T.length j ya yn yc l m s t A B C D F G cn I J K N O Q V Y L.length Z a4 a5 a6 a7 a8 a9 (.p g) T.length j ya yn yc l m s t A B C D F G cn I J K N O Q V Y L.length Z)) (O23 xa xn xc za zn zc);have P0:=Cb w ((O25 (.p g) T.length j ya yn yc l m s t A B C D F G cn I J K N O Q V Y L.length Z a4 a5 a6 a7 a8 a9 (.p g) T.length j ya yn yc l m s t A B C D F G cn I J K N O Q V Y L.length Z)) (O23 xa xn xc za zn zc);have X0:=Bx w ((O25 (.p g) T.length j ya yn yc l m s t A B C D F G cn I J K N O Q V Y L.length Z a4 a5 a6 a7 a8 a9 (.p g) T.length j ya yn yc l m s t A B C D F G cn I J K N O Q V Y L.length Z)) (O23 xa xn xc za zn zc);cases M with
 | none =>
  go_in;go_wp2_with (refine Bsj Ls 212 (.tmp 3) Ls w.heap.size Ls 212 _ (0,0) _ P0 Br9 Ls Tryz.infoPass ?_)
  refine(Ba HM _ a1).mono ?_;rintro e w1 ⟨u,rfl,hu,c⟩;obtain⟨ua,un,uc,va,vn,vc⟩:=u;have a0:=QB a1 c;go_wp2;go_ret;exact⟨rfl,a0.alloc a0.size _⟩
 | some z =>
  go_in;go_wp2_with (refine Bsj Ls 212 (.tmp 3) Ls w.heap.size Ls 212 _ (0,0) _ P0 Br9 Ls Tryz.infoPass ?_)
  refine(Ba HM _ a1).mono ?_;rintro e w1 ⟨u,rfl,hu,c⟩;obtain⟨ua,un,uc,va,vn,vc⟩:=u;have a0:=QB a1 c;have b2:=a0.size;have b0:=a0.alloc b2 (O23 ua un uc va vn vc);have hf:=Ba b1 ⟨ua,un,uc,va,vn,vc⟩ _ _ b0 (hu.below (QN (O23 ua un uc va vn vc)));simp only at hf;have HF:=Bc hf;have p0:=Bb (stay c P0) 0;have p1:=Bb (stay c P0) 1;have x0:=Bb (stay c X0) 0;have x1:=Bb (stay c X0) 1;have lP:=Sp (stay c P0);have lX:=Sp (stay c X0);simp at p0 p1 x0 x1;clear hf c P0 X0;go_wp2_with fail;refine Qm (Ba HF) ?_;intro w2 b3;go_wp2;go_ret;exact⟨Hd,QB b0 b3⟩
def Bds(b:PBd)(mp:Int->Option Bf)(v:FrV)(x:Bf)(q:Int)(w:TW)(hl:b.T.length<=1000)(hT:Dy w b.tg b.T)(hM:Ob b mp w)(hv:v.is x w):Calls prog 235 #[b.pval,v.val,.i q] w fun e f=>e=.r (.i (Jj b.T mp x q))/\Bl w f:=by
 have a2:=fun f h=>hM q f h;have a3:=fun f (h:Bl w f)=>Um b mp v x q f hl (hT.below h) (hM.below h) (hv.below h);unfold Jj;generalize Ic b.T mp x q=FA at *;generalize mp q=M at *;obtain⟨a4,a5,a6,a7,a8,a9,g,j,ya,yn,yc,l,m,s,t,A,B,C,D,F,G,cn,I,J,K,N,O,Q,V,Y,Z,T,L⟩:=b;obtain⟨xa,xn,xc,za,zn,zc⟩:=v;simp only[PBd.pval,FrV.val]at a2 a3 ⊢;have HM:=Bc a2;have b1:=Bc a3;clear a2 a3 hM hT hv;have a1:=Bu w ((O25 (.p g) T.length j ya yn yc l m s t A B C D F G cn I J K N O Q V Y L.length Z a4 a5 a6 a7 a8 a9 (.p g) T.length j ya yn yc l m s t A B C D F G cn I J K N O Q V Y L.length Z)) (O23 xa xn xc za zn zc);have P0:=Cb w ((O25 (.p g) T.length j ya yn yc l m s t A B C D F G cn I J K N O Q V Y L.length Z a4 a5 a6 a7 a8 a9 (.p g) T.length j ya yn yc l m s t A B C D F G cn I J K N O Q V Y L.length Z)) (O23 xa xn xc za zn zc);have X0:=Bx w ((O25 (.p g) T.length j ya yn yc l m s t A B C D F G cn I J K N O Q V Y L.length Z a4 a5 a6 a7 a8 a9 (.p g) T.length j ya yn yc l m s t A B C D F G cn I J K N O Q V Y L.length Z)) (O23 xa xn xc za zn zc);cases M with
 | none =>
  go_in;go_wp2_with (refine Bsj Ls 212 (.tmp 3) Ls w.heap.size Ls 212 _ (0,0) _ P0 Br9 Ls Tryz.infoPass ?_)
  refine(Ba HM _ a1).mono ?_;rintro e w1 ⟨u,rfl,hu,c⟩;obtain⟨ua,un,uc,va,vn,vc⟩:=u;have a0:=QB a1 c;go_wp2;go_ret;exact⟨rfl,a0.alloc a0.size _⟩
 | some z =>
  rw[Pk Hd];cases FA
  all_goals
   go_in;go_wp2_with (refine Bsj Ls 212 (.tmp 3) Ls w.heap.size Ls 212 _ (0,0) _ P0 Br9 Ls Tryz.infoPass ?_)
   refine(Ba HM _ a1).mono ?_;rintro e w1 ⟨u,rfl,hu,c⟩;obtain⟨ua,un,uc,va,vn,vc⟩:=u;have a0:=QB a1 c;have b2:=a0.size;have b0:=a0.alloc b2 (O23 ua un uc va vn vc);have P1:=stay c P0;have x0:=Bb (stay c X0) 0;have x1:=Bb (stay c X0) 1;have lP:=Sp P1;have lX:=Sp (stay c X0);simp at x0 x1;have P2:=Bg P1 (O23 ua un uc va vn vc);clear c P0 X0;go_wp2_with (refine Bsj Ls 212 (.tmp 3) Ls w.heap.size Ls 212 _ (0,0) _ P2 Br9 Ls Tryz.infoPass ?_)
   refine Qm (Ba b1 _ b0) ?_;intro w2 b3;go_wp2;go_ret;exact⟨rfl,QB b0 b3⟩
def Bnb(b:PBd)(mp:Int->Option Bf)(v:FrV)(x:Bf)(q:Int)(w:TW)(hl:b.T.length<=1000)(hT:Dy w b.tg b.T)(hM:Ob b mp w)(hv:v.is x w):Calls prog 236 #[b.pval,v.val,.i q] w fun e c=>e=.r (.i (P4 b.T mp (b.cn:Int) x q))/\Bl w c:=by
 have Y:=fun c (h:Bl w c)=>Um b mp v x q c hl (hT.below h) (hM.below h) (hv.below h);unfold P4;generalize Ic b.T mp x q=FA at *;obtain⟨a0,a1,a2,a3,a4,a5,f,g,ya,yn,yc,j,l,m,s,t,z,A,B,C,D,cn,F,G,I,J,K,N,O,Q,V,T,L⟩:=b;obtain⟨xa,xn,xc,za,zn,zc⟩:=v;simp only[PBd.pval,FrV.val]at Y ⊢;have a6:=Bc Y;clear Y hM hT hv;have Z:=Bu w ((O25 (.p f) T.length g ya yn yc j l m s t z A B C D cn F G I J K N O Q L.length V a0 a1 a2 a3 a4 a5 (.p f) T.length g ya yn yc j l m s t z A B C D cn F G I J K N O Q L.length V)) (O23 xa xn xc za zn zc);have P0:=Cb w ((O25 (.p f) T.length g ya yn yc j l m s t z A B C D cn F G I J K N O Q L.length V a0 a1 a2 a3 a4 a5 (.p f) T.length g ya yn yc j l m s t z A B C D cn F G I J K N O Q L.length V)) (O23 xa xn xc za zn zc);by_cases hq:(cn:Int)<=q;·rw[Th hq];go_in;go_wp2;go_ret;exact⟨rfl,Z⟩
 rw[Pk hq];have a8:q<(cn:Int):=Ck
 cases FA
 all_goals
  go_in;go_wp2_with (refine Bsj Ls 212 (.tmp 3) Ls w.heap.size Ls 212 _ (0,0) _ P0 Br9 Ls Tryz.infoPass ?_)
  refine Qm (Ba a6 _ Z) ?_;intro w2 a7;go_wp2;go_ret;exact⟨rfl,QB Z a7⟩
def Gj (T:TI)(mp:Int->Option Bf)(p:Int)(lo:TP):List Rd.Hnd->Int
 | []=>0
 | h::r=>if Fo h p=false then Gj T mp p lo r else if Jj T mp ⟨lo,[(3,h.cl)]⟩ h.target≠0 then Jj T mp ⟨lo,[(3,h.cl)]⟩ h.target else Gj T mp p lo r
def Bg9(b:PBd)(mp:Int->Option Bf)(f:List Rd.Hnd)(bb:Nat)(p:Int)(v:FrV)(x:Bf)(w:TW)(hl:b.T.length<=1000)(hT:Dy w b.tg b.T)(hM:Ob b mp w)(c3:b.hl=f.length)(d7:f.length<=1000)(c4:K8 w bb (.s b.ha b.hl b.hc) f)(hv:v.is x w):Calls prog 234 #[b.pval,.i p,v.val] w fun e l=>e=.r (.i (Gj b.T mp p x.locals f))/\Bl w l:=by
 have hJ:=fun u y q l (h:Bl w l) hu=>Bds b mp u y q l hl (hT.below h) (hM.below h) hu;have hC:=fun c l (h:Bl w l)=>Bh4 c v x l (hv.below h);have a5:Hid (∀l,Bl w l->K8 l bb (.s b.ha b.hl b.hc) f):=fun l h=>c4.kp (Kp.of_below (e:=none) h) Fm;generalize j:Gj b.T mp p x.locals f=R;have A:Hid (Gj b.T mp p x.locals (f.drop 0)=R):=j;obtain⟨a6,a7,a8,a9,b0,b1,B,C,ya,yn,yc,D,F,G,I,J,K,N,O,Q,V,cn,Y,Z,d8,hc,ma,ml,mc,la,lc,T,L⟩:=b;obtain⟨xa,xn,xc,za,zn,zc⟩:=v;simp only at c3 A;subst c3;unfold Hid at a5;simp only[PBd.pval,FrV.val]at hJ hC a5 ⊢;have d3:=Bc a5;have HJ:=Bc hJ;have HC:=Bc hC;clear j hT hM hv c4 hJ hC a5 hl;have c5:=Bu w (O25 (.p B) T.length C ya yn yc D F G I J K N O Q V cn Y Z f.length hc ma ml mc la L.length lc a6 a7 a8 a9 b0 b1 (.p B) T.length C ya yn yc D F G I J K N O Q V cn Y Z f.length hc ma ml mc la L.length lc) (O23 xa xn xc za zn zc);have P0:=Cb w (O25 (.p B) T.length C ya yn yc D F G I J K N O Q V cn Y Z f.length hc ma ml mc la L.length lc a6 a7 a8 a9 b0 b1 (.p B) T.length C ya yn yc D F G I J K N O Q V cn Y Z f.length hc ma ml mc la L.length lc) (O23 xa xn xc za zn zc);have X0:=Bx w (O25 (.p B) T.length C ya yn yc D F G I J K N O Q V cn Y Z f.length hc ma ml mc la L.length lc a6 a7 a8 a9 b0 b1 (.p B) T.length C ya yn yc D F G I J K N O Q V cn Y Z f.length hc ma ml mc la L.length lc) (O23 xa xn xc za zn zc);go_in;go_wp2
 go_loopw [15] (fun s wr=>∃q:Nat,q<=f.length/\s=.i (q:Int)/\Hid (Gj T mp p x.locals (f.drop q)=R)/\Bl w wr/\wr.heap[w.heap.size]?=some (O25 (.p B) T.length C ya yn yc D F G I J K N O Q V cn Y Z f.length hc ma ml mc la L.length lc a6 a7 a8 a9 b0 b1 (.p B) T.length C ya yn yc D F G I J K N O Q V cn Y Z f.length hc ma ml mc la L.length lc)/\wr.heap[w.heap.size+1]?=some (O23 xa xn xc za zn zc))
  (fun s _=>f.length-(intOf s).toNat)
 case atStart=>exact⟨0,Ck,rfl,A,c5,P0,X0⟩
 case round=>
  clear A c5 P0 X0;obtain⟨q,hq,rfl,A,hB,CP,CX⟩:=hrel;have c6:=hB.size;by_cases m:q<f.length
  ·obtain⟨g,hg,d9,_,a1⟩:=Cf (Ba d3 _ hB) Ck;have y0:=(a1 _ (Db f q m 0 Ck).2).trans (Db f q m 0 Ck).1;have y1:=(a1 _ (Db f q m 1 Ck).2).trans (Db f q m 1 Ck).1;have y2:=(a1 _ (Db f q m 2 Ck).2).trans (Db f q m 2 Ck).1;have y3:=(a1 _ (Db f q m 3 Ck).2).trans (Db f q m 3 Ck).1;have hd:f.drop q=f[q]::f.drop (q+1):=Brj m;have j:=Ba A;rw[hd,Gj]at j;generalize f[q]=hh at *;obtain⟨h1,h2,t,z⟩:=hh;simp at y0 y1 y2 y3;simp only at j;subst hg;have kb:(q:Int)<(f.length:Int):=Ck;have b2:=hB.alloc c6 (O19 h1 h2 t z);have b3:=Bg CP (O19 h1 h2 t z);have b4:=Bg CX (O19 h1 h2 t z);have c7:=Be wr (O19 h1 h2 t z);have b5:=Af ⟨h1,h2,t,z⟩ p (wr.alloc (O19 h1 h2 t z));simp only at b5;generalize Fo ⟨h1,h2,t,z⟩ p=CV at *;have c8:=Bc b5;clear b5 hd a1 A;cases CV with
   | false =>
    rw[Th rfl]at j;have HG:Hid (Gj T mp p x.locals (f.drop (q+1))=R):=j;clear j;go_wp2_with fail;refine Qb (Ba c8) b2 ?_;intro w1 a0 a2;go_wp2;go_roundw
    case rel=>exact⟨q+1,Ck,Mg,HG,a2,stay a0 b3,stay a0 b4⟩
    case measure=>simp[intOf];omega
   | true =>
    rw[Pk Hd]at j;have c9:=Bc j;clear j;go_wp2_with fail;refine Qb (Ba c8) b2 ?_;intro w1 a0 a2;have d0:=stay a0 b3;have b6:=stay a0 b4;have b7:=stay a0 c7;clear a0 b3 b4 c7 CP CX b2 hB c6;obtain⟨x0,x1⟩:=cl2 b6;have z3:=Bb b7 3;simp at x0 x1 z3;go_wp2_with fail;refine(Ba HC z _ a2).mono ?_;rintro e w2 ⟨u,rfl,hu,a3⟩;obtain⟨ua,un,uc,va,vn,vc⟩:=u;have d1:=QB a2 a3;have d4:=d1.size;have b8:=Bg (stay a3 d0) (O23 ua un uc va vn vc);have d5:=Bg (stay a3 b6) (O23 ua un uc va vn vc);have b9:=stay a3 b7;have c0:=d1.alloc d4 (O23 ua un uc va vn vc);have d6:=hu.below (QN (O23 ua un uc va vn vc));have hj:=Ba HJ ⟨ua,un,uc,va,vn,vc⟩ _ t _ c0 d6;simp only at hj;have j:=Ba c9;generalize Jj T mp ⟨x.locals,[(3,z)]⟩ t=JV at *;have d2:=Bc hj;have z2:=Bb b9 2;have lH:=Sp b9;simp at z2;clear a3 d0 b6 b7 b9 x0 x1 z3 hu hj c9 a2;by_cases a4:JV=0
    ·rw[Pk (by simpa using a4)]at j;have HG:Hid (Gj T mp p x.locals (f.drop (q+1))=R):=j;subst a4;clear j;go_wp2_with (refine Bsj Ls 212 (.tmp 3) Ls w.heap.size Ls 212 _ (0,0) _ b8 Br9 Ls Tryz.infoPass ?_)
     refine Qb (Ba d2) c0 ?_;intro w3 c1 c2;go_wp2;go_roundw
     case rel=>exact⟨q+1,Ck,Mg,HG,c2,stay c1 b8,stay c1 d5⟩
     case measure=>simp[intOf];omega
    rw[Th a4]at j;have HE:=Bc j;have f0:(JV != 0)=true:=by simpa using a4
    clear j a4;go_wp2_with (refine Bsj Ls 212 (.tmp 3) Ls w.heap.size Ls 212 _ (0,0) _ b8 Br9 Ls Tryz.infoPass ?_)
    refine Qb (Ba d2) c0 ?_;intro w3 c1 c2;go_wp2;go_ret;exact⟨by rw[<- Ba HE];rfl,c2⟩
  have HE:Hid ((0:Int)=R):=by unfold Hid;rw[<- Ba A,Brq Ck];rfl
  have kb:¬(q:Int)<(f.length:Int):=Ck;clear A;go_wp2;go_ret;exact⟨by rw[<- Ba HE];rfl,hB⟩
def Pz (T:TI)(mp:Int->Option Bf)(H:Int)(B:Option Bf)(op n nxt len:Int):Int :=
 if H≠0 then H else if B.isSome=false then 10 else if Ei op=true/\Jj T mp (Cu B) n≠0 then Jj T mp (Cu B) n
 else if Dl op=false then 0 else P4 T mp len (Cu B) nxt
def Bjn(b:PBd)(mp:Int->Option Bf)(p:Nat)(op n H:Int)(RB:Option Bf)(v:FrV)(w:TW)(hl:b.T.length<=1000)(hT:Dy w b.tg b.T)(hM:Ob b mp w)(hp:p<=100000) (hH:∀c,Bl w c->Calls prog 234 #[b.pval,.i (p:Int),v.val] c fun e c7=>e=.r (.i H)/\Bl c c7) (d3:∀c,Bl w c->Calls prog 221 #[b.val,.agg #[.i (p:Int),.i op,.i n],v.val] c fun e c7=>∃u:FrV,e=.r (.tuple #[u.val,.bool RB.isSome])/\(∀y,RB=some y->u.is y c7)/\Bl c c7):Calls prog 186 #[b.pval,.agg #[.i (p:Int),.i op,.i n],v.val] w fun e c=>∃u:FrV, e=.r (.tuple #[u.val,.i (Pz b.T mp H RB op n ((p+Cd.wd op:Nat):Int) (b.cn:Int))])/\(Pz b.T mp H RB op n ((p+Cd.wd op:Nat):Int) (b.cn:Int)=0->∀y,RB=some y->u.is y c)/\Bl w c:=by
 have hJ:=fun u y q c (h:Bl w c) Q=>Bds b mp u y q c hl (hT.below h) (hM.below h) Q;have d4:=fun u y q c (h:Bl w c) Q=>Bnb b mp u y q c hl (hT.below h) (hM.below h) Q;have g1:=fun c=>W1 p op n c hp;have g2:=fun c=>Bfe op c;have g3:=fun c=>Z9 op c;generalize D:Pz b.T mp H RB op n ((p+Cd.wd op:Nat):Int) (b.cn:Int)=A;unfold Pz at D;generalize p+Cd.wd op=d5 at *;obtain⟨d6,d7,d8,d9,f0,f1,tg,tc,ya,yn,yc,cl,nm,pa,pl,pc,r1,r2,lo,st,ca,cn,cc,ha,a2,hc,ma,ml,mc,la,lc,T,L⟩:=b;obtain⟨xa,xn,xc,za,zn,zc⟩:=v;simp only[PBd.pval,PBd.val,FrV.val]at hJ d4 hH d3 D ⊢;generalize Ei op=J at *;generalize Dl op=G at *;have HH:=Bc hH;have f2:=Bc d3;have HJ:=Bc hJ;have g4:=Bc d4;have g5:=Bc g1;have g6:=Bc g2;have f3:=Bc g3;clear hH d3 hJ d4 g1 g2 g3 hT hM hl;have a0:=U9 w (O25 (.p tg) T.length tc ya yn yc cl nm pa pl pc r1 r2 lo st ca cn cc ha a2 hc ma ml mc la L.length lc d6 d7 d8 d9 f0 f1 (.p tg) T.length tc ya yn yc cl nm pa pl pc r1 r2 lo st ca cn cc ha a2 hc ma ml mc la L.length lc) (O15 (p:Int) op n) (O23 xa xn xc za zn zc) (O23 none 0 0 none 0 0);obtain⟨P0,I0,X0,R0⟩:=Ai w (O25 (.p tg) T.length tc ya yn yc cl nm pa pl pc r1 r2 lo st ca cn cc ha a2 hc ma ml mc la L.length lc d6 d7 d8 d9 f0 f1 (.p tg) T.length tc ya yn yc cl nm pa pl pc r1 r2 lo st ca cn cc ha a2 hc ma ml mc la L.length lc) (O15 (p:Int) op n) (O23 xa xn xc za zn zc) (O23 none 0 0 none 0 0);have f4:=a0.size;by_cases h0:H=0
 ·subst h0;rw[Pk Hd]at D;cases RB with
  | none =>
   rw[Th Hd]at D;have N:=Bc D;clear D;go_in;go_wp2_with (refine Bsj Ls 212 (.tmp 3) Ls w.heap.size Ls 212 _ (0,0) _ P0 Br9 Ls Tryz.infoPass ?_)
   refine Qm (Ba HH _ a0) ?_;intro w1 j;have K:=a0.trans (j.mono f4);have c8:=K.size;have P1:=stay j P0;have I1:=stay j I0;have X1:=stay j X0;have R1:=stay j R0;clear j P0 I0 X0 R0;obtain⟨m0,m1,m2,m3,m4,m5,m6,m7,m8,m9,a7,a8,a9,b0,b1,b2,b3,b4,b5,b6,b7,b8,b9,c0,c1,c2,c3,c4⟩:=Bnk P1;simp at m0 m1 m2 m3 m4 m5 m6 m7 m8 m9 a7 a8 a9 b0 b1 b2 b3 b4 b5 b6 b7 b8 b9 c0 c1 c2 c3 c4;obtain⟨V,Y,Z⟩:=cl3 I1;simp at V Y Z;obtain⟨x0,x1⟩:=cl2 X1;simp at x0 x1;go_wp2_with fail;refine(Ba f2 _ K).mono ?_;rintro e w2 ⟨u,rfl,-,F⟩;obtain⟨l,m,t,z,B,vc⟩:=u;have a3:=K.trans (F.mono c8);have f5:=a3.size;have I:=stay F R1;obtain⟨f,g⟩:=cl2 I;obtain⟨q0,q1⟩:=fr2 I;have lr:=Sp I;simp at f g;clear m0 m1 m2 m3 m4 m5 m6 m7 m8 m9 a7 a8 a9 b0 b1 b2 b3 b4 b5 b6 b7 b8 b9 c0 c1 c2 c3 c4 V Y Z x0 x1 F;have h2:=Ba N;subst h2;go_wp2_with fail;refine tb (.tuple #[.agg #[.s none 0 0,.s none 0 0],.i 10]) (by simp[results,Bul,go_sem,f,g,lr]) ?_;exact⟨⟨none,0,0,none,0,0⟩,rfl,fun h=>(by simp at h),by repeat (first|refine Bry ?_ Fr _|refine Bs4 ?_ (by first|omega|(simp;omega)) _|exact a3)⟩
  | some y =>
   rw[Pk Hd,show Cu (some y)=y from rfl]at D;have N:=Bc D;clear D;go_in;go_wp2_with (refine Bsj Ls 212 (.tmp 3) Ls w.heap.size Ls 212 _ (0,0) _ P0 Br9 Ls Tryz.infoPass ?_)
   refine Qm (Ba HH _ a0) ?_;intro w1 j;have K:=a0.trans (j.mono f4);have c8:=K.size;have P1:=stay j P0;have I1:=stay j I0;have X1:=stay j X0;have R1:=stay j R0;clear j P0 I0 X0 R0;obtain⟨m0,m1,m2,m3,m4,m5,m6,m7,m8,m9,a7,a8,a9,b0,b1,b2,b3,b4,b5,b6,b7,b8,b9,c0,c1,c2,c3,c4⟩:=Bnk P1;simp at m0 m1 m2 m3 m4 m5 m6 m7 m8 m9 a7 a8 a9 b0 b1 b2 b3 b4 b5 b6 b7 b8 b9 c0 c1 c2 c3 c4;obtain⟨V,Y,Z⟩:=cl3 I1;simp at V Y Z;obtain⟨x0,x1⟩:=cl2 X1;simp at x0 x1;go_wp2_with fail;refine(Ba f2 _ K).mono ?_;rintro e w2 ⟨u,rfl,Q,F⟩;have Q:=Q y rfl;obtain⟨l,m,t,z,B,vc⟩:=u;have a3:=K.trans (F.mono c8);have f5:=a3.size;have P2:=Bg (stay F P1) (O23 l m t z B vc);have I2:=Bg (stay F I1) (O23 l m t z B vc);have I:=Bg (stay F R1) (O23 l m t z B vc);have Y2:=Be w2 (O23 l m t z B vc);have a4:=a3.alloc f5 (O23 l m t z B vc);have f6:=a4.size;have c9:=Q.below (QN (O23 l m t z B vc));have c5:=Bb (stay F I1) 1;have lI:=Sp (stay F I1);have lR:=Sp (stay F R1);simp at c5;clear m0 m1 m2 m3 m4 m5 m6 m7 m8 m9 a7 a8 a9 b0 b1 b2 b3 b4 b5 b6 b7 b8 b9 c0 c1 c2 c3 c4 V Y Z x0 x1 F P1 I1 X1 R1 Q;go_wp2_with fail;refine Qm (Ba g6 _) ?_;rintro w3 rfl
   go_upto_if 34 with fail
   go_cut [8] from 12 (fun _ wx=>Bl w wx/\wx.heap[w.heap.size]?=some (O25 (.p tg) T.length tc ya yn yc cl nm pa pl pc r1 r2 lo st ca cn cc ha a2 hc ma ml mc la L.length lc d6 d7 d8 d9 f0 f1 (.p tg) T.length tc ya yn yc cl nm pa pl pc r1 r2 lo st ca cn cc ha a2 hc ma ml mc la L.length lc)/\wx.heap[w.heap.size+1]?=some (O15 (p:Int) op n)/\wx.heap[w.heap.size+1+1+1]?=some (O23 none 0 0 none 0 0)/\wx.heap[w2.heap.size]?=some (O23 l m t z B vc) /\
    FrV.is ⟨l,m,t,z,B,vc⟩ y wx/\Hid ((if G=false then 0 else P4 T mp (cn:Int) y (d5:Int))=A))
   case first=>
    have C:=Ba N;cases J with
    | false =>
     rw[Pk Hd]at C;have f7:=Bc C;clear C N;go_wp2
     go_meet
     case rel=>exact⟨a4,P2,I2,I,Y2,c9,f7⟩
    | true =>
     have hj:=Ba HJ ⟨l,m,t,z,B,vc⟩ y n _ a4 c9;simp only at hj;generalize Jj T mp y n=JV at *;have g7:=Bc hj;clear hj;have h3:=Bb I2 2;simp at h3;by_cases a5:JV=0
     ·rw[Pk (by simp[a5])]at C;have f7:=Bc C;subst a5;clear C N;go_wp2_with (refine Bsj Ls 212 (.tmp 3) Ls w.heap.size Ls 212 _ (0,0) _ P2 Br9 Ls Tryz.infoPass ?_)
      refine Qm (Ba g7) ?_;intro w4 O;have d0:=a4.trans (O.mono f6);go_wp2
      go_meet
      case rel=>exact⟨d0,stay O P2,stay O I2,stay O I,stay O Y2,c9.below O,f7⟩
     rw[Th ⟨rfl,a5⟩]at C;have i3:(JV != 0)=true:=by simpa using a5
     have HE:=Bc C;have f8:A≠0:=by rw[<- C];exact a5
     clear C N a5;go_wp2_with (refine Bsj Ls 212 (.tmp 3) Ls w.heap.size Ls 212 _ (0,0) _ P2 Br9 Ls Tryz.infoPass ?_)
     refine Qm (Ba g7) ?_;intro w4 O;have d0:=a4.trans (O.mono f6);have i4:=d0.size;have R4:=stay O I;obtain⟨f,g⟩:=cl2 R4;obtain⟨q0,q1⟩:=fr2 R4;have lr:=Sp R4;simp at f g;go_wp2_with fail;refine tb (.tuple #[.agg #[.s none 0 0,.s none 0 0],.i JV]) (by simp[results,Bul,go_sem,f,g]) ?_;exact⟨⟨none,0,0,none,0,0⟩,by rw[<- Ba HE],fun h=>absurd h f8,by repeat (first|refine Bry ?_ Fr _|exact d0)⟩
   case rest=>
    obtain⟨f9,P5,I5,R5,Y5,g0,HE⟩:=hcut;have h4:=f9.size;clear N P2 I2 I Y2 c9 a4 f6 g6 HJ HH f2 a3 f5 c5 lI;have lY:=Sp Y5;have C:=Ba HE;have c5:=Bb I5 1;simp at c5;cases G with
    | false =>
     rw[Th rfl]at C;obtain⟨y0,y1⟩:=cl2 Y5;simp at y0 y1;obtain rfl:=C;obtain⟨f,g⟩:=cl2 R5;obtain⟨q0,q1⟩:=fr2 R5;have lr:=Sp R5;simp at f g;clear HE;go_wp2_with fail;refine Qm (Ba f3 _) ?_;rintro w6 rfl;go_wp2_with fail;refine tb (.tuple #[.agg #[.s l m t,.s z B vc],.i 0]) (by simp[results,Bul,go_sem,f,g]) ?_;exact⟨⟨l,m,t,z,B,vc⟩,rfl,g0.set2 R5 _ _,by repeat (first|refine Bry ?_ Fr _|exact f9)⟩
    | true =>
     rw[Pk Hd]at C;obtain⟨V,Y,Z⟩:=cl3 I5;simp at V Y Z;go_wp2_with fail;refine Qm (Ba f3 _) ?_;rintro w6 rfl;go_wp2_with fail;refine Qm (Ba g5 _) ?_;intro w7 a6;have d1:=f9.trans (a6.mono h4);have g8:=d1.size;have P7:=stay a6 P5;have R7:=stay a6 R5;have Y7:=stay a6 Y5;have g9:=g0.below a6;clear a6 P5 I5 R5 Y5 g0 V Y Z HE f3 g5 c5;have hg:=Ba g4 ⟨l,m,t,z,B,vc⟩ y (d5:Int) _ d1 g9;simp only at hg;generalize P4 T mp (cn:Int) y (d5:Int)=GV at *;have h1:=Bc hg;obtain⟨y0,y1⟩:=cl2 Y7;simp at y0 y1;clear hg g4;obtain rfl:=C;by_cases d2:GV=0
     ·subst d2;go_wp2_with (refine Bsj Ls 212 (.tmp 3) Ls w.heap.size Ls 212 _ (0,0) _ P7 Br9 Ls Tryz.infoPass ?_)
      refine Qm (Ba h1) ?_;intro w8 a1;have c6:=d1.trans (a1.mono g8);have h5:=c6.size;have R8:=stay a1 R7;have Y8:=stay a1 Y7;have h6:=g9.below a1;have h7:=Bb Y8 0;have h8:=Bb Y8 1;simp at h7 h8;obtain⟨f,g⟩:=cl2 R8;obtain⟨q0,q1⟩:=fr2 R8;have lr:=Sp R8;simp at f g;go_wp2_with fail;refine tb (.tuple #[.agg #[.s l m t,.s z B vc],.i 0]) (by simp[results,Bul,go_sem,f,g]) ?_;exact⟨⟨l,m,t,z,B,vc⟩,rfl,h6.set2 R8 _ _,by repeat (first|refine Bry ?_ Fr _|exact c6)⟩
     have i5:(GV != 0)=true:=by simpa using d2
     have h9:=Bc d2;clear d2;go_wp2_with (refine Bsj Ls 212 (.tmp 3) Ls w.heap.size Ls 212 _ (0,0) _ P7 Br9 Ls Tryz.infoPass ?_)
     refine Qm (Ba h1) ?_;intro w8 a1;have c6:=d1.trans (a1.mono g8);have h5:=c6.size;have R8:=stay a1 R7;obtain⟨f,g⟩:=cl2 R8;obtain⟨q0,q1⟩:=fr2 R8;have lr:=Sp R8;simp at f g;go_wp2_with fail;refine tb (.tuple #[.agg #[.s none 0 0,.s none 0 0],.i GV]) (by simp[results,Bul,go_sem,f,g]) ?_;exact⟨⟨none,0,0,none,0,0⟩,rfl,fun h=>absurd h (Ba h9),by repeat (first|refine Bry ?_ Fr _|exact c6)⟩
 rw[Th h0]at D;have N:=Bc D;have i6:(H != 0)=true:=by simpa using h0
 have f8:A≠0:=by rw[<- D];exact h0
 clear D h0;go_in;go_wp2_with (refine Bsj Ls 212 (.tmp 3) Ls w.heap.size Ls 212 _ (0,0) _ P0 Br9 Ls Tryz.infoPass ?_)
 refine Qm (Ba HH _ a0) ?_;intro w1 j;have K:=a0.trans (j.mono f4);have c8:=K.size;have I:=stay j R0;obtain⟨f,g⟩:=cl2 I;obtain⟨q0,q1⟩:=fr2 I;have lr:=Sp I;simp at f g;go_wp2_with fail;refine tb (.tuple #[.agg #[.s none 0 0,.s none 0 0],.i H]) (by simp[results,Bul,go_sem,f,g]) ?_;exact⟨⟨none,0,0,none,0,0⟩,by rw[<- Ba N],fun h=>absurd h f8,by repeat (first|refine Bry ?_ Fr _|exact K)⟩
def Ms (mp:Int->Option Bf)(lk:Cd.Ins->Bf->Int)(bh:Cd.Ins->Bf->Option Bf):List Cd.Ins->Option Bf->Int × Int
 | [],_=>(0,0)
 | i::r,o=>match (mp i.place).or o with
  | none=>Ms mp lk bh r none
  | some x=>if lk i x≠0 then (lk i x,i.place) else Ms mp lk bh r (if Dl i.op=true then bh i x else none)
def P8 (T:TI)(mp:Int->Option Bf)(lk:Cd.Ins->Bf->Int)(bh:Cd.Ins->Bf->Option Bf)(L:List Cd.Ins)(x0:Bf):Int × Int :=
 if Ic T mp x0 0=false then (9,0) else Ms mp lk bh L (some x0)
def Bjr(b:PBd)(mp:Int->Option Bf)(lk:Cd.Ins->Bf->Int)(bh:Cd.Ins->Bf->Option Bf)(x0:Bf)(P:Bf->Prop)(bb:Nat)(w:TW)(hl:b.T.length<=1000)(hT:Dy w b.tg b.T)(hM:Ob b mp w)(o5:b.L.length<=100000)(f8:Jz w bb (.s b.la b.L.length b.lc) b.L) (c6:∀f,Bl w f->Calls prog 110 #[.agg #[.i b.cl,.i b.nm,.s b.pa b.pl b.pc,.i b.r1,.i b.r2,.i b.lo,.i b.st,.s b.ca b.cn b.cc,.s b.ha b.hl b.hc,.s b.ma b.ml b.mc]] f fun e b2=>∃u:FrV,e=.returned u.val/\u.is x0 b2/\Bl f b2) (c7:∀i∈b.L,∀(v:FrV) (x:Bf) f,Bl w f->v.is x f->P x->Calls prog 186 #[b.pval,.agg #[.i i.place,.i i.op,.i i.n],v.val] f fun e b2=>∃u:FrV,e=.r (.tuple #[u.val,.i (lk i x)])/\(lk i x=0->∃y,bh i x=some y/\u.is y b2/\P y)/\Bl f b2) (f9:P x0)(g0:∀q z,mp q=some z->P z):Calls prog 129 #[b.pval] w fun e f=>e=.r (.agg #[.i (P8 b.T mp lk bh b.L x0).1,.i 0,.i (P8 b.T mp lk bh b.L x0).2])/\Bl w f:=by
 have c8:=fun v x f (h:Bl w f) hv=>Um b mp v x 0 f hl (hT.below h) (hM.below h) hv;have c9:=fun q f h=>hM q f h;have c0:Hid (∀f,Bl w f->Jz f bb (.s b.la b.L.length b.lc) b.L):=fun f h=>f8.kp (Kp.of_below (e:=none) h) Fm;generalize hR:P8 b.T mp lk bh b.L x0=R;unfold P8 at hR;generalize hL:b.L=LL at *;obtain⟨a3,a4,a5,a6,a7,a8,t,A,ya,yn,yc,B,C,D,F,G,I,J,K,N,O,cn,Q,V,m,Z,ma,ml,mc,la,lc,T,L⟩:=b;simp only at hL;subst hL;unfold Hid at c0;simp only[PBd.pval,FrV.val]at c8 c9 c6 c7 c0 hR ⊢;have k8:=Bc c0;have g1:=Bc c8;have k9:=Bc c9;have g2:=Bc c6;have l0:=Bc c7;have l1:=Bc g0;have HR:=Bc hR;clear c8 c9 c6 c7 g0 hR hT hM f8 c0 hl;have d0:=Bu w (O25 (.p t) T.length A ya yn yc B C D F G I J K N O cn Q V m Z ma ml mc la L.length lc a3 a4 a5 a6 a7 a8 (.p t) T.length A ya yn yc B C D F G I J K N O cn Q V m Z ma ml mc la L.length lc) (O8 0 0 0);have P0:=Cb w (O25 (.p t) T.length A ya yn yc B C D F G I J K N O cn Q V m Z ma ml mc la L.length lc a3 a4 a5 a6 a7 a8 (.p t) T.length A ya yn yc B C D F G I J K N O cn Q V m Z ma ml mc la L.length lc) (O8 0 0 0);have Z0:=Bx w (O25 (.p t) T.length A ya yn yc B C D F G I J K N O cn Q V m Z ma ml mc la L.length lc a3 a4 a5 a6 a7 a8 (.p t) T.length A ya yn yc B C D F G I J K N O cn Q V m Z ma ml mc la L.length lc) (O8 0 0 0);go_in
 go_upto_region 1 with fail
 generalize hW:(w.alloc (O25 (.p t) T.length A ya yn yc B C D F G I J K N O cn Q V m Z ma ml mc la L.length lc a3 a4 a5 a6 a7 a8 (.p t) T.length A ya yn yc B C D F G I J K N O cn Q V m Z ma ml mc la L.length lc)).alloc (O8 0 0 0)=W0 at *;clear hW;obtain⟨m0,m1,m2,m3,m4,m5,m6,m7,m8,m9,g3,g4,b3,g5,g6,g7,g8,g9,h0,h1,h2,h3,h4,h5,h6,h7,h8,h9⟩:=Bnk P0;simp at m0 m1 m2 m3 m4 m5 m6 m7 m8 m9 g3 g4 b3 g5 g6 g7 g8 g9 h0 h1 h2 h3 h4 h5 h6 h7 h8 h9;go_wp2_with fail;refine(Ba g2 _ d0).mono ?_;rintro e w1 ⟨u,rfl,hu,b4⟩;obtain⟨ua,un,uc,va,vn,vc⟩:=u;have d1:=QB d0 b4;have i3:=d1.size;have P1:=Bg (stay b4 P0) (O23 ua un uc va vn vc);have Z1:=Bg (stay b4 Z0) (O23 ua un uc va vn vc);have Y1:=Be w1 (O23 ua un uc va vn vc);have o6:=Sp (stay b4 Z0);have b5:=d1.alloc i3 (O23 ua un uc va vn vc);have i4:=b5.size;have a9:=hu.below (QN (O23 ua un uc va vn vc));clear b4 hu P0 Z0 m0 m1 m2 m3 m4 m5 m6 m7 m8 m9 g3 g4 b3 g5 g6 g7 g8 g9 h0 h1 h2 h3 h4 h5 h6 h7 h8 h9;have d2:=Ba g1 ⟨ua,un,uc,va,vn,vc⟩ x0 _ b5 a9;simp only at d2;have c:=Ba HR;generalize Ic T mp x0 0=FA at *;have d3:=Bc d2;clear d2 g1 HR;cases FA with
 | false =>
  rw[Th rfl]at c;obtain rfl:=c;go_wp2_with (refine Bsj Ls 212 (.tmp 1) Ls w.heap.size Ls 212 _ (0,0) _ P1 Br9 Ls Tryz.infoPass ?_)
  refine Qm (Ba d3) ?_;intro w3 a1;have c1:=b5.trans (a1.mono i4);have Z3:=stay a1 Z1;obtain⟨z0,z1,z2⟩:=cl3 Z3;simp at z0 z1 z2;obtain⟨q0,q1,q2⟩:=fr3 Z3;have lr:=Sp Z3;go_wp2_with fail;refine tb (.agg #[.i 9,.i 0,.i 0]) (by simp[results,Bwl,go_sem,z0,z1,z2]) ?_;exact⟨rfl,by repeat (first|refine Bry ?_ Hd _|exact c1)⟩
 | true =>
  rw[Pk Hd]at c;have HA:Hid (Ms mp lk bh (L.drop 0) (some x0)=R):=c;clear c;go_wp2_with (refine Bsj Ls 212 (.tmp 1) Ls w.heap.size Ls 212 _ (0,0) _ P1 Br9 Ls Tryz.infoPass ?_)
  refine Qm (Ba d3) ?_;intro w3 a1;have c1:=b5.trans (a1.mono i4);have P3:=stay a1 P1;have Z3:=stay a1 Z1;have Y3:=stay a1 Y1;have i5:=a9.below a1;have b3:=Bb P3 12;simp at b3;clear a1 P1 Z1 Y1 a9 b5 d3;go_wp2
  go_loopw [4,22] (fun s4 l2 wr=>∃(q:Nat) (o:Option Bf) (u:FrV),q<=L.length/\s4=.bool o.isSome/\l2=.i (q:Int)/\Hid (Ms mp lk bh (L.drop q) o=R) /\
    wr.heap[w1.heap.size]?=some (O23 u.la u.ln u.lc u.sa u.sn u.sc)/\(∀x,o=some x->u.is x wr/\P x) /\
    Bl w wr/\wr.heap[w.heap.size]?=some (O25 (.p t) T.length A ya yn yc B C D F G I J K N O cn Q V m Z ma ml mc la L.length lc a3 a4 a5 a6 a7 a8 (.p t) T.length A ya yn yc B C D F G I J K N O cn Q V m Z ma ml mc la L.length lc)/\wr.heap[w.heap.size+1]?=some (O8 0 0 0))
   (fun _ v _=>L.length-(intOf v).toNat)
  case atStart=>exact⟨0,some x0,⟨ua,un,uc,va,vn,vc⟩,Ck,rfl,rfl,HA,Y3,fun x hx=>(by obtain rfl:=Option.some.inj hx;exact⟨i5,f9⟩),c1,P3,Z3⟩
  case round=>
   clear HA P3 Z3 Y3 i5 c1 b3 d1 i3 d0 f9 g2;obtain⟨q,o,u,hq,rfl,rfl,HA,Y,hu,hB,CP,CZ⟩:=hrel;obtain⟨ua,un,uc,va,vn,vc⟩:=u;simp only at Y;have l3:=hB.size;by_cases d4:q<L.length
   ·obtain⟨g,hg,o7,_,c2⟩:=Cf (Ba k8 _ hB) Ck;obtain⟨t1,t2,t3,t4⟩:=Wu L q d4;have y0:=(c2 (q*3) Ck).trans t1;have y1:=(c2 (q*3+1) Ck).trans t2;have y2:=(c2 (q*3+2) Ck).trans t3;have l4:=Brn d4;have hd:L.drop q=L[q]::L.drop (q+1):=Brj d4;have c:=Ba HA;rw[hd,Ms]at c;generalize L[q]=l5 at *;obtain⟨j,l,ix⟩:=l5;simp only at y0 y1 y2 c;subst hg;have kb:(q:Int)<(L.length:Int):=Ck;have d5:=Ba l0 ⟨j,l,ix⟩ l4;have i6:=Ba l1 j;have i7:=fun f h=>Ba k9 j f h;have i8:=fun f=>Z9 l f;simp only at d5;generalize mp j=c3 at *;have l6:=Bc d5;have i9:=Bc i7;have l7:=Bc i8;have b6:=Bc c;have d6:=hB.alloc l3 (O15 j l ix);have d7:=Bg CP (O15 j l ix);have j2:=Bg CZ (O15 j l ix);have j3:=Be wr (O15 j l ix);have j4:=Bg Y (O15 j l ix);clear d5 i7 i8 hd c2 c HA t1 t2 t3 t4;go_wp2_with (refine Bsj Ls 212 (.tmp 1) Ls w.heap.size Ls 212 _ (0,0) _ d7 Br9 Ls Tryz.infoPass ?_)
    refine(Ba i9 _ d6).mono ?_;rintro e w4 ⟨u2,rfl,a9,a2⟩;obtain⟨l8,l9,n0,n1,n2,n3⟩:=u2;have c4:=QB d6 a2;have j5:=c4.size;have d8:=stay a2 d7;have d9:=stay a2 j2;have c5:=stay a2 j3;have X4:=stay a2 j4;have lI:=Sp Y;have b0:=Bb X4 0;have b1:=Bb X4 1;obtain⟨p0,p1⟩:=fr2 X4;have lX:=Sp X4;have n4:=Sp c5;simp at b0 b1
    go_upto_if 33 with fail
    go_cut [4] from 23 to 54 (fun s4 wx=>∃u':FrV,s4=.bool (c3.or o).isSome/\wx.heap[w1.heap.size]?=some (O23 u'.la u'.ln u'.lc u'.sa u'.sn u'.sc)/\(∀x,c3.or o=some x->u'.is x wx/\P x) /\
     Bl w wx/\wx.heap[w.heap.size]?=some (O25 (.p t) T.length A ya yn yc B C D F G I J K N O cn Q V m Z ma ml mc (.p g) L.length lc a3 a4 a5 a6 a7 a8 (.p t) T.length A ya yn yc B C D F G I J K N O cn Q V m Z ma ml mc (.p g) L.length lc)/\wx.heap[w.heap.size+1]?=some (O8 0 0 0)/\wx.heap[wr.heap.size]?=some (O15 j l ix))
    case first=>
     cases c3 with
     | none =>
      go_wp2
      go_meet
      case rel=>exact⟨⟨ua,un,uc,va,vn,vc⟩,rfl,Bg X4 _,fun x hx=>⟨(((hu x hx).1.below (QN _)).below a2).below (QN _),(hu x hx).2⟩,c4.alloc j5 _,Bg d8 _,Bg d9 _,Bg c5 _⟩
     | some z =>
      have n5:=i6 z rfl;go_wp2
      go_meet
      case rel=>exact⟨⟨l8,l9,n0,n1,n2,n3⟩,rfl,Bg (Pu X4 _ _) _,fun x hx=>(by obtain rfl:=Option.some.inj hx;exact⟨(a9.set2 X4 _ _).below (QN _),n5⟩),((c4.setCell Fr _).setCell Fr _).alloc Fr _,Bg ((Hx Ck).trans d8) _,Bg ((Hx Ck).trans d9) _,Bg ((Hx Ck).trans c5) _⟩
    case rest=>
     obtain⟨u3,rfl,X5,j6,b7,P5,Z5,I5⟩:=hcut;obtain⟨j7,j8,j9,k0,k2,k3⟩:=u3;simp only at X5;have k4:=b7.size;have o8:=Sp X5;have c:=Ba b6;clear d8 d9 c5 X4 b0 b1 p0 p1 lX n4 a9 hu a2 c4 j5 d7 j2 j3 j4 CP CZ Y d6 b6 y0 y1 y2 i6 i9;generalize c3.or o=o1 at *;cases o1 with
     | none =>
      have HG:Hid (Ms mp lk bh (L.drop (q+1)) none=R):=c;clear c;go_wp2;go_roundw
      case rel=>exact⟨q+1,none,⟨j7,j8,j9,k0,k2,k3⟩,Ck,rfl,Mg,HG,X5,fun x hx=>(by cases hx),b7,P5,Z5⟩
      case measure=>simp[intOf];omega
     | some x =>
      obtain⟨k5,n6⟩:=j6 x rfl;have f0:=Ba l6 ⟨j7,j8,j9,k0,k2,k3⟩ x _ b7 k5 n6;simp only at c f0;have f1:∀y,bh ⟨j,l,ix⟩ x=some y->(if Dl l=true then bh ⟨j,l,ix⟩ x else none)=if Dl l=true then some y else none:=fun y hy=>by rw[hy]
      generalize lk ⟨j,l,ix⟩ x=LV at *;have k6:=Bc f0;clear f0 j6;have b0:=Bb X5 0;have b1:=Bb X5 1;obtain⟨i0,i1,i2⟩:=cl3 I5;simp at b0 b1 i0 i1 i2;by_cases b8:LV=0
      ·rw[Pk (by simpa using b8)]at c;have b6:=Bc c;subst b8;clear c;go_wp2_with (refine Bsj Ls 212 (.tmp 1) Ls w.heap.size Ls 212 _ (0,0) _ P5 Br9 Ls Tryz.infoPass ?_)
       refine(Ba k6).mono ?_;rintro e w6 ⟨u6,rfl,n7,a0⟩;obtain⟨y,hy,n8,n9⟩:=n7 (by trivial);obtain⟨f2,f3,f4,f5,f6,f7⟩:=u6;have c:=Ba b6;rw[f1 y hy]at c;have b9:=b7.trans (a0.mono k4);have o0:=b9.size;have P6:=stay a0 P5;have Z6:=stay a0 Z5;have I6:=stay a0 I5;have X6:=stay a0 X5;have o2:=Bb X6 0;have o3:=Bb X6 1;obtain⟨e0,e1⟩:=fr2 X6;have o9:=Sp X6;have j1:=Bb I6 1;have o4:=Sp I6;simp at o2 o3 j1;clear f1 hy b0 b1 i0 i1 i2 a0 P5 Z5 I5 X5 k5 b6;have k7:=Bc c;clear c;have I7:((w6.setCell (.a w1.heap.size 0) (.s f2 f3 f4)).setCell (.a w1.heap.size 1) (.s f5 f6 f7)).heap[wr.heap.size]?=some (O15 j l ix):=(Hx Ck).trans I6;have k1:=Bb I7 1;have p2:=Sp I7;simp at k1;go_wp2_with fail;refine Qm (Ba l7 _) ?_;rintro w7 rfl;have c:=Ba k7;generalize Dl l=gi at *;cases gi
       all_goals
        have HG:=Bc c;clear c k7;go_wp2;go_roundw
        case rel=>exact⟨q+1,_,⟨f2,f3,f4,f5,f6,f7⟩,Ck,rfl,Mg,HG,Bg (Pu X6 _ _) _,fun x hx=>(by first|(cases hx;done)|(obtain rfl:=Option.some.inj hx;exact⟨(n8.set2 X6 _ _).below (QN _),n9⟩)),((b9.setCell Fr _).setCell Fr _).alloc Fr _,Bg ((Hx Ck).trans P6) _,Bg ((Hx Ck).trans Z6) _⟩
        case measure=>simp[intOf];omega
      rw[Th b8]at c;have m:(LV != 0)=true:=by simpa using b8
      obtain rfl:=c;clear b8 f1;go_wp2_with (refine Bsj Ls 212 (.tmp 1) Ls w.heap.size Ls 212 _ (0,0) _ P5 Br9 Ls Tryz.infoPass ?_)
      refine(Ba k6).mono ?_;rintro e w6 ⟨u6,rfl,-,a0⟩;obtain⟨f2,f3,f4,f5,f6,f7⟩:=u6;have b9:=b7.trans (a0.mono k4);have o0:=b9.size;have Z6:=stay a0 Z5;have I6:=stay a0 I5;have j0:=Bb I6 0;have o4:=Sp I6;simp at j0;obtain⟨z0,z1,z2⟩:=cl3 Z6;simp at z0 z1 z2;obtain⟨q0,q1,q2⟩:=fr3 Z6;have lr:=Sp Z6;clear b0 b1 i0 i1 i2 a0;go_wp2_with fail;refine tb (.agg #[.i LV,.i 0,.i j]) (by simp[results,Bwl,go_sem,z0,z1,z2,lr]) ?_;exact⟨rfl,by repeat (first|refine Bry ?_ Hd _|refine Bs4 ?_ (by first|omega|(simp;omega)) _|exact b9)⟩
   have c:=Ba HA;rw[Brq Ck,Ms]at c;obtain rfl:=c;have kb:¬(q:Int)<(L.length:Int):=Ck;obtain⟨z0,z1,z2⟩:=cl3 CZ;simp at z0 z1 z2;obtain⟨q0,q1,q2⟩:=fr3 CZ;have lr:=Sp CZ;clear HA;go_wp2_with fail;refine tb (.agg #[.i 0,.i 0,.i 0]) (by simp[results,Bwl,go_sem,z0,z1,z2]) ?_;exact⟨rfl,by repeat (first|refine Bry ?_ Hd _|exact hB)⟩
def Bmg(b:PBd)(w:TW):Calls prog 109 #[.agg #[.s b.fa1 b.fl1 b.fc1,.s b.fa2 b.fl2 b.fc2],.agg #[.s (.p b.tg) b.T.length b.tc,.s b.ya b.yn b.yc],.agg #[.i b.cl,.i b.nm,.s b.pa b.pl b.pc,.i b.r1,.i b.r2,.i b.lo,.i b.st,.s b.ca b.cn b.cc,.s b.ha b.hl b.hc,.s b.ma b.ml b.mc],.s b.la b.L.length b.lc] w fun e c => e=.returned b.val/\Bl w c:=by
 obtain⟨f,g,h,j,l,m,q,t,ya,yn,yc,v,z,A,B,C,D,F,G,I,J,cn,K,N,O,Q,V,Y,Z,la,lc,T,L⟩:=b;simp only[PBd.val];go_in;go_wp2;refine tb (.agg #[.s f g h,.s j l m,.s (.p q) T.length t,.s ya yn yc,.i v,.i z,.s A B C,.i D,.i F,.i G,.i I,.s J cn K,.s N O Q,.s V Y Z,.s la L.length lc]) (by simp[results,results109,go_sem]) ?_;exact⟨rfl,U9 _ _ _ _ _⟩
def Ff (FR:Rd.Mth->Int × Int):Nat->List Rd.Mth->Int × Int × Int
 | _,[]=>(0,0,0)
 | k,m::r=>if (FR m).1≠0 then ((FR m).1,(k:Int),(FR m).2) else Ff FR (k+1) r
theorem Nh{w:World}{u b t:Nat}{g e f h:Option Addr}{O i j l m p q s:Nat}{c B v z A C:Int}{D F G I:Option Addr}{J K cn L N Q V Y:Nat}(hF:w.heap[u]?=some (O1 g O i e j l))(Z:w.heap[b]?=some (O2 f m p h q s))(hM:w.heap[t]?=some (O18 c B D J K v z A C F cn L G N Q I V Y)):(w.cell? ⟨u,0,none⟩=some (.slice g O i)/\w.cell? ⟨u,1,none⟩=some (.slice e j l))/\(w.cell? ⟨b,0,none⟩=some (.slice f m p)/\w.cell? ⟨b,1,none⟩=some (.slice h q s))/\w.cell? ⟨t,0,none⟩=some (.int .i64 c)/\w.cell? ⟨t,1,none⟩=some (.int .i64 B)/\w.cell? ⟨t,2,none⟩=some (.slice D J K)/\w.cell? ⟨t,3,none⟩=some (.int .i64 v)/\w.cell? ⟨t,4,none⟩=some (.int .i64 z)/\w.cell? ⟨t,5,none⟩=some (.int .i64 A)/\w.cell? ⟨t,6,none⟩=some (.int .i64 C)/\w.cell? ⟨t,7,none⟩=some (.slice F cn L)/\w.cell? ⟨t,8,none⟩=some (.slice G N Q)/\w.cell? ⟨t,9,none⟩=some (.slice I V Y):=by
 refine⟨⟨?_,?_⟩,⟨?_,?_⟩,?_,?_,?_,?_,?_,?_,?_,?_,?_,?_⟩
 all_goals first|(rw[Bb hF];rfl)|(rw[Bb Z];rfl)|(rw[Bb hM];rfl)
def Kg{P:Program}{e:Array Oper}{o:Oper}{a:Act}{w:TW}{K:Act->TW->Prop}{Q:Exit->Act->TW->Prop}{E:Prop}(f:o.guard=none)(ty:TypeId)(x y:Operand)(i:o.op=.store ty x y) (g:Nat)(b:Array Value)(j:a.eval x=.q g 0)(l:a.eval y=.agg b)(t:TypeId)(c:Array Value)(m:w.heap[g]?=some (.cells c t (0,0)))(p:(P.info? ty).map (·.size)=some b.size) (s:c.size=b.size)(v:b.all (·.oneCell')=true)(h:K (a.put o.dst undef) (w.setRow g b)):if Region.wanted o (yielded e a.tmps)=true then Oper.wp P o a w K Q else E:=by
 have z:Region.wanted o (yielded e a.tmps)=true:=by simp[Region.wanted,f]
 rw[Th z];exact wp_store_row ty x y i g b j l t c m p s v h
def Bbt{u b:Nat}{v w:TW}(c:Below u v w)(h:u<=b)(e:Array Value):Below u v (w.setRow b e) :=
 ⟨c.os,c.tape,c.output,by rw[Bwq];exact c.size,fun k f=>(Bwa w b k e Ck).trans (c.block k f)⟩
def Vl{w:TW}{u:Nat}{G b:Array Value}{j:TypeId}(c:w.heap[u]?=some (.cells G j (0,0))):(w.setRow u b).heap[u]?=some (.cells b j (0,0)):=Bw6 w u G b j (0,0) c
def Dm{w:TW}{u k:Nat}{G:Array Value}(h:k≠u):(w.setRow u G).heap[k]?=w.heap[k]?:=Bwa w u k G h
def Bjs(a3 a6:TA)(a4 a5 a2 bm:Nat)(a9:List (Rd.Cls×Value))(c:List (Rd.Mth×Ex))(FR:Rd.Mth->Int×Int)(w:TW)(g7:a9.length<=6)(c9:Fh w bm (.s a3 a4 a5) a9)(i6:c.length<=1000)(d0:Eb w bm (.s a6 c.length a2) c) (d1:∀p∈c,p.1.code.length<=1000/\∀x∈p.1.code,0<=x) (d2:∀p∈c,∀(b:PBd) bb f,Bl w f->b.fa1=a3->b.fl1=a4->b.fc1=a5->b.fa2=a6->b.fl2=c.length->b.fc2=a2->b.T=Tr.tree (a9.map Prod.fst)->b.L=Cd.readL p.1.code->Dy f b.tg b.T->f.ownsRow w.heap.size 105 1 (.s b.ya b.yn b.yc) (7+a9.length) (Tr.fvals a9)->(⟨b.cl,b.nm,b.pa,b.pl,b.pc,b.r1,b.r2,b.lo,b.st,b.ca,b.cn,b.cc,b.ha,b.hl,b.hc,b.ma,b.ml,b.mc⟩:PM).is p.1 f bm->Jz f bb (.s b.la b.L.length b.lc) b.L->Calls prog 129 #[b.pval] f fun e g8=>e=.r (.agg #[.i (FR p.1).1,.i 0,.i (FR p.1).2])/\Bl f g8):Calls prog 80 #[.agg #[.s a3 a4 a5,.s a6 c.length a2]] w fun e f=>e=.r (.agg #[.i (Ff FR 0 (c.map Prod.fst)).1,.i (Ff FR 0 (c.map Prod.fst)).2.1,.i (Ff FR 0 (c.map Prod.fst)).2.2])/\Bl w f:=by
 have d3:=fun f (h:Bl w f)=>Sf a3 a6 a4 a5 c.length a2 bm a9 f g7 (c9.kp (Kp.of_below (e:=none) h) Fm Fm);have g9:Hid (∀f,Bl w f->Eb f bm (.s a6 c.length a2) c):=fun f h=>d0.kp (Kp.of_below (e:=none) h) Fm Fm Fm Fm Fm;generalize hR:Ff FR 0 (c.map Prod.fst)=R;have HR:Hid (Ff FR 0 ((c.map Prod.fst).drop 0)=R):=hR;have h1:=Bc d3;have h2:=Bc d2;have h3:=Bc d1;clear d3 d2 d1 hR c9 d0;have d4:=Bu w (O1 a3 a4 a5 a6 c.length a2) (O8 0 0 0);have F0:=Cb w (O1 a3 a4 a5 a6 c.length a2) (O8 0 0 0);have Z0:=Bx w (O1 a3 a4 a5 a6 c.length a2) (O8 0 0 0);have h4:((w.alloc (O1 a3 a4 a5 a6 c.length a2)).alloc (O8 0 0 0)).heap.size=w.heap.size+2:=Hd;go_in;go_wp2_with fail;refine(Ba h1 _ d4).mono ?_;rintro e w1 ⟨v,tc,ya,yn,yc,rfl,d5,d6,i7,b6⟩;generalize Tr.tree (a9.map Prod.fst)=T at *;have c1:=QB d4 b6;have d7:=c1.size;have lZ:=Sp (stay b6 Z0);have F1:=Bg (stay b6 F0) (O2 (.p v) T.length tc ya yn yc);have Z1:=Bg (stay b6 Z0) (O2 (.p v) T.length tc ya yn yc);have T1:=Be w1 (O2 (.p v) T.length tc ya yn yc);have b5:=c1.alloc d7 (O2 (.p v) T.length tc ya yn yc);have d8:=d5.below (QN (O2 (.p v) T.length tc ya yn yc));have d9:=Sy (Dc d6 (Kp.of_below (e:=none) (QN (O2 (.p v) T.length tc ya yn yc))) Fm) (show w.heap.size<=_ by rw[h4];omega);clear b6 F0 Z0 d5 d6;have f1:=Bb F1 1;simp at f1;go_wp2
 go_loopw [16] (fun s wr=>∃q:Nat,q<=c.length/\s=.i (q:Int)/\Hid (Ff FR q ((c.map Prod.fst).drop q)=R)/\Bl w wr/\wr.heap[w.heap.size]?=some (O1 a3 a4 a5 a6 c.length a2)/\wr.heap[w.heap.size+1]?=some (O8 0 0 0)/\wr.heap[w1.heap.size]?=some (O2 (.p v) T.length tc ya yn yc)/\Dy wr v T/\wr.ownsRow w.heap.size 105 1 (.s ya yn yc) (7+a9.length) (Tr.fvals a9))
  (fun s _=>c.length-(intOf s).toNat)
 case atStart=>exact⟨0,Ck,rfl,HR,b5,F1,Z1,T1,d8,d9⟩
 case round=>
  clear HR b5 F1 Z1 T1 d8 d9 f1 c1 d7;obtain⟨q,hq,rfl,HR,hB,CF,CZ,CT,h5,h6⟩:=hrel;have h7:=hB.size;by_cases b9:q<c.length
  ·obtain⟨m,g,hg,i8,Ev,hm,-⟩:=(Ba g9 _ hB).mth2 b9;obtain⟨y0,y1,y2,y3,y4,y5,y6,y7,y8,y9⟩:=T5 Ev;have hd:(c.map Prod.fst).drop q=c[q].1::(c.map Prod.fst).drop (q+1):=by rw[Brj (by simpa using b9)];simp
   have hr:=Ba HR;rw[hd,Ff]at hr;have b3:=Ba h2 c[q] (Brn b9);obtain⟨h8,h9⟩:=Ba h3 c[q] (Brn b9);generalize c[q].1=x at *;have kb:(q:Int)<(c.length:Int):=Ck;have f0:=hm.cn;obtain⟨z,A,B,D,F,G,I,J,N,j,cn,l,O,Q,V,Y,Z,mc⟩:=m;simp only at y0 y1 y2 y3 y4 y5 y6 y7 y8 y9 f0;subst f0;have i0:=hB.alloc h7 (O18 z A B D F G I J N j x.code.length l O Q V Y Z mc);have f2:=Bbr x.code j l bm (wr.alloc (O18 z A B D F G I J N j x.code.length l O Q V Y Z mc)) h8 h9 ((hm.below (QN (O18 z A B D F G I J N j x.code.length l O Q V Y Z mc))).code);have f3:=Bc f2;have f4:=Bc b3;have f5:=Bc hr;have f6:=Bg CF (O18 z A B D F G I J N j x.code.length l O Q V Y Z mc);have f7:=Bg CZ (O18 z A B D F G I J N j x.code.length l O Q V Y Z mc);have f8:=Bg CT (O18 z A B D F G I J N j x.code.length l O Q V Y Z mc);have f9:=Be wr (O18 z A B D F G I J N j x.code.length l O Q V Y Z mc);subst hg;clear f2 b3 hr hd Ev HR;go_wp2_with fail;refine(Ba f3).mono ?_;rintro e t ⟨la,lc,rfl,g0,b2⟩;have b5:=QB i0 b2;have i1:=b5.size;have b0:=stay b2 f6;have g1:=stay b2 f7;have a7:=stay b2 f8;have b1:=stay b2 f9;have i2:=Sp b1;have i3:=Sp a7;have c2:=fun w=>Bmg ⟨a3,a4,a5,some ⟨g,0,none⟩,c.length,a2,v,tc,ya,yn,yc,z,A,B,D,F,G,I,J,N,j,x.code.length,l,O,Q,V,Y,Z,mc,la,lc,T,Cd.readL x.code⟩ w;simp only[PBd.val]at c2;have c3:=Bc c2;clear c2 f6 f7 f8 f9
   go_upto_region 6 with fail
   go_cut [9] from 17 to 45 (fun s9 wx=>∃pb,s9=.q pb 0/\wx.heap[pb]?=some (O25 (.p v) T.length tc ya yn yc z A B D F G I J N j x.code.length l O Q V Y Z mc la (Cd.readL x.code).length lc a3 a4 a5 (.p g) c.length a2 (.p v) T.length tc ya yn yc z A B D F G I J N j x.code.length l O Q V Y Z mc la (Cd.readL x.code).length lc)/\Bl t wx)
   case first=>
    go_wp2;refine Br4 (S:=(fun f=>(f.C w.heap.size 0 (.s a3 a4 a5)/\f.C w.heap.size 1 (.s (.p g) c.length a2))/\(f.C w1.heap.size 0 (.s (.p v) T.length tc)/\f.C w1.heap.size 1 (.s ya yn yc))/\f.C wr.heap.size 0 (.i z)/\f.C wr.heap.size 1 (.i A)/\f.C wr.heap.size 2 (.s B D F)/\f.C wr.heap.size 3 (.i G)/\f.C wr.heap.size 4 (.i I)/\f.C wr.heap.size 5 (.i J)/\f.C wr.heap.size 6 (.i N)/\f.C wr.heap.size 7 (.s j x.code.length l)/\f.C wr.heap.size 8 (.s O Q V)/\f.C wr.heap.size 9 (.s Y Z mc))) Lt (Nh b0 a7 b1) (fun a0=>?_);refine tq 0 (.agg #[.s (.p v) T.length tc,.s ya yn yc]) a0 ?_;refine tq 1 (.agg #[.i z,.i A,.s B D F,.i G,.i I,.i J,.i N,.s j x.code.length l,.s O Q V,.s Y Z mc]) a0 ?_;refine tq 2 (.s la (Cd.readL x.code).length lc) a0 ?_;refine tq 3 (.agg #[.s a3 a4 a5,.s (.p g) c.length a2]) a0 ?_;refine tq 4 (.agg #[.s (.p v) T.length tc,.s ya yn yc]) a0 ?_;refine tq 5 (.agg #[.i z,.i A,.s B D F,.i G,.i I,.i J,.i N,.s j x.code.length l,.s O Q V,.s Y Z mc]) a0 ?_;refine tq 6 (.s la (Cd.readL x.code).length lc) a0 ?_;refine Brv (rs:=[7,9]) Lt Hd ?_;refine Bri (o:=⟨_,_,_,_,_,_⟩) rfl (fun K hK=>?_) (Bri (o:=⟨_,_,_,_,_,_⟩) rfl (fun K hK=>?_) Bro)
    ·go_simp;refine Qm (Ba c3 _) ?_;intro w5 a1;have c4:t.heap.size<=w5.heap.size:=a1.size
     try dsimp only
     clear a0;refine hK.out _ _ (Nh (by exact stay a1 (show t.drew.heap[_]?=_ from b0)) (by exact stay a1 (show t.drew.heap[_]?=_ from a7)) (by exact stay a1 (show t.drew.heap[_]?=_ from b1))) (fun a0=>?_);clear hK K
     try simp only[QX]
     refine tq 8 (.agg #[.s (.p v) T.length tc,.s ya yn yc,.i z,.i A,.s B D F,.i G,.i I,.i J,.i N,.s j x.code.length l,.s O Q V,.s Y Z mc,.s la (Cd.readL x.code).length lc,.s a3 a4 a5,.s (.p g) c.length a2,.s (.p v) T.length tc,.s ya yn yc,.i z,.i A,.s B D F,.i G,.i I,.i J,.i N,.s j x.code.length l,.s O Q V,.s Y Z mc,.s la (Cd.readL x.code).length lc]) a0 ?_;refine tr 9 fun K hK=>?_;go_simp;clear a0;refine hK.out _ _ (Nh (by exact Bg (stay a1 (show t.drew.heap[_]?=_ from b0)) _) (by exact Bg (stay a1 (show t.drew.heap[_]?=_ from a7)) _) (by exact Bg (stay a1 (show t.drew.heap[_]?=_ from b1)) _)) (fun a0=>?_);clear hK K
     try simp only[QX]
     have b7:=Be w5 (O25 none 0 0 none 0 0 0 0 none 0 0 0 0 0 0 none 0 0 none 0 0 none 0 0 none 0 0 none 0 0 none 0 0 none 0 0 none 0 0 0 0 none 0 0 0 0 0 0 none 0 0 none 0 0 none 0 0 none 0 0);refine tr 10 fun K hK=>?_;refine Kg Ls 212 _ _ Ls w5.heap.size #[.s (.p v) T.length tc,.s ya yn yc,.i z,.i A,.s B D F,.i G,.i I,.i J,.i N,.s j x.code.length l,.s O Q V,.s Y Z mc,.s la (Cd.readL x.code).length lc,.s a3 a4 a5,.s (.p g) c.length a2,.s (.p v) T.length tc,.s ya yn yc,.i z,.i A,.s B D F,.i G,.i I,.i J,.i N,.s j x.code.length l,.s O Q V,.s Y Z mc,.s la (Cd.readL x.code).length lc] Ls Ls 212 _ b7 Tryz.infoPass Ls (by simp[Value.oneCell']) ?_;clear a0;refine hK.out _ _ (Nh ((Dm Ck).trans (Bg (stay a1 (show t.drew.heap[_]?=_ from b0)) _)) ((Dm Ck).trans (Bg (stay a1 (show t.drew.heap[_]?=_ from a7)) _)) ((Dm Ck).trans (Bg (stay a1 (show t.drew.heap[_]?=_ from b1)) _))) (fun a0=>?_);clear hK K
     try simp only[Act.put]
     refine Bsg Lt ?_ _;go_wp2
     go_meet
     case rel=>exact⟨w5.heap.size,rfl,Vl b7,Bbt (((Brm _ _).drew.trans a1).alloc c4 _) c4 _⟩
    go_simp;clear a0;refine hK.out _ _ (Nh (by exact Bg (show t.drew.heap[_]?=_ from b0) _) (by exact Bg (show t.drew.heap[_]?=_ from a7) _) (by exact Bg (show t.drew.heap[_]?=_ from b1) _)) (fun a0=>?_);clear hK K
    try simp only[QX]
    refine tr 7 fun K hK=>?_;go_simp;refine Qm (Ba c3 _) ?_;intro w5 a1;have c4:t.heap.size+1<=w5.heap.size:=by have:=a1.size;simp at this;exact this
    try dsimp only
    clear a0;refine hK.out _ _ (Nh (by exact stay a1 (Bg (show t.drew.heap[_]?=_ from b0) _)) (by exact stay a1 (Bg (show t.drew.heap[_]?=_ from a7) _)) (by exact stay a1 (Bg (show t.drew.heap[_]?=_ from b1) _))) (fun a0=>?_);clear hK K
    try simp only[QX]
    refine tq 8 (.agg #[.s (.p v) T.length tc,.s ya yn yc,.i z,.i A,.s B D F,.i G,.i I,.i J,.i N,.s j x.code.length l,.s O Q V,.s Y Z mc,.s la (Cd.readL x.code).length lc,.s a3 a4 a5,.s (.p g) c.length a2,.s (.p v) T.length tc,.s ya yn yc,.i z,.i A,.s B D F,.i G,.i I,.i J,.i N,.s j x.code.length l,.s O Q V,.s Y Z mc,.s la (Cd.readL x.code).length lc]) a0 ?_;have b7:=stay a1 (Be t.drew (O25 none 0 0 none 0 0 0 0 none 0 0 0 0 0 0 none 0 0 none 0 0 none 0 0 none 0 0 none 0 0 none 0 0 none 0 0 none 0 0 0 0 none 0 0 0 0 0 0 none 0 0 none 0 0 none 0 0 none 0 0));refine tr 10 fun K hK=>?_;refine Kg Ls 212 _ _ Ls t.heap.size #[.s (.p v) T.length tc,.s ya yn yc,.i z,.i A,.s B D F,.i G,.i I,.i J,.i N,.s j x.code.length l,.s O Q V,.s Y Z mc,.s la (Cd.readL x.code).length lc,.s a3 a4 a5,.s (.p g) c.length a2,.s (.p v) T.length tc,.s ya yn yc,.i z,.i A,.s B D F,.i G,.i I,.i J,.i N,.s j x.code.length l,.s O Q V,.s Y Z mc,.s la (Cd.readL x.code).length lc] Ls Ls 212 _ b7 Tryz.infoPass Ls (by simp[Value.oneCell']) ?_;clear a0;refine hK.out _ _ (Nh ((Dm Ck).trans (stay a1 (Bg (show t.drew.heap[_]?=_ from b0) _))) ((Dm Ck).trans (stay a1 (Bg (show t.drew.heap[_]?=_ from a7) _))) ((Dm Ck).trans (stay a1 (Bg (show t.drew.heap[_]?=_ from b1) _)))) (fun a0=>?_);clear hK K
    try simp only[Act.put]
    refine Bsg Lt ?_ _;go_wp2
    go_meet
    case rel=>exact⟨t.heap.size,rfl,Vl b7,Bbt ((((Brm _ _).drew).alloc (Bru _) _).trans (a1.mono Hd)) (Bru _) _⟩
   case rest=>
    obtain⟨pb,rfl,CP,b4⟩:=hcut;have c0:=b5.trans (b4.mono i1);have g2:=c0.size;have c5:Bl wr wc:=((QN (O18 z A B D F G I J N j x.code.length l O Q V Y Z mc)).trans (b2.mono Hd)).trans (b4.mono (by have:=b2.size;simp at this;omega));have i4:=stay b4 b0;have c6:=stay b4 g1;have i5:=stay b4 a7;have g3:=g0.kp (Kp.of_below (e:=none) b4) Fm;have g4:=h5.below c5;have g5:=Dc h6 (Kp.of_below (e:=none) c5) Fm;have b3:=Ba f4 ⟨a3,a4,a5,some ⟨g,0,none⟩,c.length,a2,v,tc,ya,yn,yc,z,A,B,D,F,G,I,J,N,j,x.code.length,l,O,Q,V,Y,Z,mc,la,lc,T,Cd.readL x.code⟩ _ wc c0 rfl rfl rfl rfl rfl rfl rfl rfl g4 g5 (hm.below c5) g3;simp only[PBd.pval]at b3;have hr:=Ba f5;generalize FR x=fr at *;obtain⟨c7,fr2⟩:=fr;simp only at b3 hr;have g6:=Bc b3;have i9:=Sp c6;clear b3 f5 f4 f3 c3 b0 g1 a7 b1 g0 b2 b4 b5 hm g3 i2 i3 y0 y1 y2 y3 y4 y5 y6 y7 y8 y9;by_cases h0:c7=0
    ·rw[Pk (by simpa using h0)]at hr;have HG:Hid (Ff FR (q+1) ((c.map Prod.fst).drop (q+1))=R):=hr;subst h0;clear hr;go_wp2_with (refine Bsj Ls 212 (.tmp 9) Ls pb Ls 212 _ (0,0) _ CP Br9 Ls Tryz.infoPass ?_)
     refine Qm (Ba g6) ?_;intro w7 a8;have b8:=c0.trans (a8.mono g2);go_wp2;go_roundw
     case rel=>exact⟨q+1,Ck,Mg,HG,b8.alloc b8.size _,Bg (stay a8 i4) _,Bg (stay a8 c6) _,Bg (stay a8 i5) _,(g4.below a8).below (QN _),Dc (Dc g5 (Kp.of_below (e:=none) a8) Fm) (Kp.of_below (e:=none) (QN _)) Fm⟩
     case measure=>simp[intOf];omega
    rw[Th h0]at hr;obtain rfl:=hr;have j0:(c7 != 0)=true:=by simpa using h0
    clear h0;go_wp2_with (refine Bsj Ls 212 (.tmp 9) Ls pb Ls 212 _ (0,0) _ CP Br9 Ls Tryz.infoPass ?_)
    refine Qm (Ba g6) ?_;intro w7 a8;have b8:=c0.trans (a8.mono g2);have j1:=b8.size;have c8:=stay a8 c6;obtain⟨z0,z1,z2⟩:=cl3 c8;simp at z0 z1 z2;obtain⟨q0,q1,q2⟩:=fr3 c8;have lr:=Sp c8;clear a8;go_wp2_with fail;refine tb (.agg #[.i c7,.i (q:Int),.i fr2]) (by simp[results,results80,go_sem,z0,z1,z2,lr]) ?_;exact⟨rfl,by repeat (first|refine Bry ?_ Fr _|refine Bry ?_ Hd _|refine Bs4 ?_ (by first|omega|(simp;omega)) _|exact b8)⟩
  have hr:=Ba HR;rw[Brq Fr,Ff]at hr;obtain rfl:=hr;have kb:¬(q:Int)<(c.length:Int):=Ck;obtain⟨z0,z1,z2⟩:=cl3 CZ;simp at z0 z1 z2;obtain⟨q0,q1,q2⟩:=fr3 CZ;have lr:=Sp CZ;clear HR;go_wp2_with fail;refine tb (.agg #[.i 0,.i 0,.i 0]) (by simp[results,results80,go_sem,z0,z1,z2]) ?_;exact⟨rfl,by repeat (first|refine Bry ?_ Hd _|exact hB)⟩
def Om (P V:Int × Int × Int):Int × Int × Int:=if P.1≠0 then P else if V.1≠0 then V else (0,0,0)
theorem Bo9{w:World}{k:Nat}{a B c:Int}(h:w.heap[k]?=some (O8 a B c)):w.cell? ⟨k,0,none⟩=some (.int .i64 a)/\w.cell? ⟨k,1,none⟩=some (.int .i64 B)/\w.cell? ⟨k,2,none⟩=some (.int .i64 c):=by
 refine⟨?_,?_,?_⟩
 all_goals (rw[Bb h];rfl)
def Bk2(s:ByteArray)(V:Int×Int×Int)(w:TW)(hs:s.size<=maxLen) (a5:(Gx s.data.toList).1=0->∀c f j l m p Y t v z,Bl w z->t.map Prod.fst=(Rd.read s.data.toList).1.classes->Fh z Y (.s c f j) t->v.map Prod.fst=(Rd.read s.data.toList).1.methods->Eb z Y (.s l m p) v->Calls prog 80 #[.agg #[.s c f j,.s l m p]] z fun e d7=>e=.r (.agg #[.i V.1,.i V.2.1,.i V.2.2])/\Bl z d7):Calls prog 53 #[.string s] w fun e z=>∃c f j l m p,e=.r (.tuple #[.agg #[.s c f j,.s l m p],.agg #[.i (Om (Gx s.data.toList) V).1,.i (Om (Gx s.data.toList) V).2.1,.i (Om (Gx s.data.toList) V).2.2]])/\((Om (Gx s.data.toList) V).1=0->∃Y t v,t.map Prod.fst=(Rd.read s.data.toList).1.classes/\Fh z Y (.s c f j) t/\v.map Prod.fst=(Rd.read s.data.toList).1.methods/\Eb z Y (.s l m p) v)/\Bl w z:=by
 have a6:=fun w=>Bi8 s w hs;unfold Om;generalize Gx s.data.toList=P at *;generalize Rd.read s.data.toList=q at *;obtain⟨P1,B,C⟩:=P;obtain⟨V1,V2,V3⟩:=V;simp only at a6 a5 ⊢;have a3:=Bc a6;have a7:=Bc a5;clear a6 a5;have b6:=Bu w (O1 none 0 0 none 0 0) (O8 0 0 0);have C0:=Cb w (O1 none 0 0 none 0 0) (O8 0 0 0);have D0:=Bx w (O1 none 0 0 none 0 0) (O8 0 0 0);by_cases Z:P1=0
 ·subst Z;by_cases h2:V1=0;subst h2;simp only[ne_eq,not_true_eq_false,Btv]
  rotate_left
  have f2:(V1 != 0)=true:=by simpa using h2
  have d8:=Bc h2;simp only[ne_eq,not_true_eq_false,Btv,h2,not_false_eq_true,Bv7];clear h2
  rotate_left
  all_goals
   go_in;go_wp2_with fail;refine(Ba a3 _).mono ?_;rintro e I ⟨c,f,j,l,m,p,rfl,b7,A⟩;obtain⟨t,v,a8,b8,a9,b9⟩:=b7 (by trivial);have a0:=QB b6 A;have c3:=a0.size;have D:=stay A C0;have F:=stay A D0;have f3:=Sp F;have b2:Bl I ((I.alloc (O1 c f j l m p)).alloc (O8 0 B C)):=Bu _ _ _;have c4:=a0.trans (b2.mono c3);have c5:=b8.kp (Kp.of_below (e:=none) b2) Fm Fm;have c6:=b9.kp (Kp.of_below (e:=none) b2) Fm Fm Fm Fm Fm;have c7:=Ba a7 (by trivial) c f j l m p _ t v _ c4 a8 c5 a9 c6;have HF:=Bc c7;have c8:=Cb I (O1 c f j l m p) (O8 0 B C);have a4:=Bx I (O1 c f j l m p) (O8 0 B C);have C2:=Bg (Bg D (O1 c f j l m p)) (O8 0 B C);have D2:=Bg (Bg F (O1 c f j l m p)) (O8 0 B C);have c9:=Bc a8;have d3:=Bc a9;clear c7 a7 a3 A C0 D0 D F b8 b9 a8 a9 b7;go_wp2_with fail;refine Qb (Ba HF) c4 ?_;intro w3 G b3;have f4:=b3.size;have C3:=stay G C2;have D3:=stay G D2;have d4:=stay G c8;have J:=stay G a4;have b4:=c5.kp (Kp.of_below (e:=none) G) Fm Fm;have b5:=c6.kp (Kp.of_below (e:=none) G) Fm Fm Fm Fm Fm;obtain⟨b0,b1⟩:=cl2 d4;obtain⟨k0,k1,k2⟩:=cl3 J;obtain⟨j0,j1,j2⟩:=fr3 J;have lA:=Sp J;have lB:=Sp d4;simp at b0 b1 k0 k1 k2;have K:=Bb C3 0;have L:=Bb C3 1;obtain⟨N,O,Q⟩:=cl3 D3;obtain⟨e0,e1⟩:=fr2 C3;obtain⟨g0,g1,g2⟩:=fr3 D3;have lC:=Sp C3;have lD:=Sp D3;simp at K L N O Q;clear G C2 D2 c8 a4 HF
  ·have K1:=Kp.set (b:=w.heap.size+2) (i:=0) J (.i 0);have K2:=Kp.set (b:=w.heap.size+2) (i:=1) (Bt (i:=0) J (.i 0)) (.i V2);have K3:=Kp.set (b:=w.heap.size+2) (i:=2) (Bt (i:=1) (Bt (i:=0) J (.i 0)) (.i V2)) (.i V3);have KK:=((((((K1.trans K2).trans K3).trans (Kp.set_lo (i:=0) (g:=w.heap.size) Ck (.s c f j))).trans (Kp.set_lo (i:=1) (g:=w.heap.size) Ck (.s l m p))).trans (Kp.set_lo (i:=0) (g:=w.heap.size+1) Ck (.i 0))).trans (Kp.set_lo (i:=1) (g:=w.heap.size+1) Ck (.i 0))).trans (Kp.set_lo (i:=2) (g:=w.heap.size+1) Ck (.i 0));have d5:Fh w3 (w.heap.size+2) (.s c f j) t:=by simpa using b4
   have d6:Eb w3 (w.heap.size+2) (.s l m p) v:=by simpa using b5
   have d9:=d5.kp KK Fm Fm;have f0:=d6.kp KK Fm Fm Fm Fm Fm;clear K1 K2 K3 KK d5 d6 b4 b5;go_wp2_with fail;refine tb (.tuple #[.agg #[.s c f j,.s l m p],.agg #[.i 0,.i 0,.i 0]]) (by simp[results,Bwt,go_sem,K,L,N,O,Q]) ?_;exact⟨c,f,j,l,m,p,rfl,fun _=>⟨_,t,v,Ba c9,d9,Ba d3,f0⟩,by repeat (first|(with_reducible exact b3)|(with_reducible refine Bry ?_ Fr _)|(with_reducible refine Bry ?_ Hd _))⟩
  clear b4 b5 c9 d3;go_wp2
  go_region
  all_goals
   go_wp2_with fail;refine tb (.tuple #[.agg #[.s none 0 0,.s none 0 0],.agg #[.i V1,.i V2,.i V3]]) (by simp[results,Bwt,go_sem,K,L,N,O,Q]) ?_;exact⟨none,0,0,none,0,0,rfl,fun h=>(by first|exact False.elim h|exact absurd h (Ba d8)),by repeat (first|(with_reducible exact b3)|(with_reducible refine Bud ?_)|(with_reducible refine Bry ?_ Fr _)|(with_reducible refine Bry ?_ Hd _))⟩
 have f5:(P1 != 0)=true:=by simpa using Z
 have f1:=Bc Z;simp only[ne_eq,Z,not_false_eq_true,Bv7];go_in;go_wp2_with fail;refine(Ba a3 _).mono ?_;rintro e I ⟨c,f,j,l,m,p,rfl,-,A⟩;have a0:=QB b6 A;have c3:=a0.size;have D:=stay A C0;have F:=stay A D0;have K:=Bb D 0;have L:=Bb D 1;obtain⟨N,O,Q⟩:=cl3 F;obtain⟨e0,e1⟩:=fr2 D;obtain⟨g0,g1,g2⟩:=fr3 F;have lC:=Sp D;have lD:=Sp F;simp at K L N O Q;have a4:=Be (I.alloc (O1 c f j l m p)) (O8 P1 B C);have s0:=Bo9 a4;clear Z a7 a3 A;go_wp2
 go_region
 all_goals
  go_wp2_with fail;refine tb (.tuple #[.agg #[.s none 0 0,.s none 0 0],.agg #[.i P1,.i B,.i C]]) (by simp[results,Bwt,go_sem,K,L,N,O,Q,lC,lD]) ?_;exact⟨none,0,0,none,0,0,rfl,fun h=>(by first|exact False.elim h|exact absurd h (Ba f1)),by repeat (first|(with_reducible exact a0)|(with_reducible refine Bud ?_)|(with_reducible refine Bs4 ?_ Fr _)|(with_reducible refine Bry ?_ Hd _))⟩
def Eu (CR:Rd.Mth->Int × Int):Nat->List Rd.Mth->Int × Int × Int
 | _,[]=>(0,0,0)
 | k,m::r=>if (CR m).1≠0 then ((CR m).1,(k:Int),(CR m).2) else Eu CR (k+1) r
def J6 (P V:Int × Int × Int):Int × Int × Int:=if P.1≠0 then P else V
def Bgd{α β:Type}{l:List (α×β)}{r:List α}(h:l.map Prod.fst=r){p:α->Prop}(b:∀x∈r,p x):∀y∈l,p y.1:=fun y c=>b y.1 (by rw[<- h];exact List.mem_map.2 ⟨y,c,rfl⟩)
def Bg2(s:ByteArray)(A:Rd.Mth->Int×Int)(w:TW)(hs:s.size<=maxLen) (a7:(Rf.formed s.data.toList).1=0->∀(f:RFl) (m:RMV) (x:Rf.Mth) b,Bl w b->f.ok b->f.l.map Prod.fst=Rf.given++(Rf.fil s.data.toList).1->f.ms.map Prod.fst=(Rf.fil s.data.toList).2.1->x∈(Rf.fil s.data.toList).2.1->m.is x b f.bb->Calls prog 119 #[f.val,m.val] b fun e d0=>e=.r (.tuple #[.i (A x.m).1,.i (A x.m).2])/\Bl b d0):Calls prog 75 #[.string s] w fun e b=>e=.r (.tuple #[.i (J6 (Rf.formed s.data.toList) (Eu A 0 ((Rf.fil s.data.toList).2.1.map Rf.Mth.m))).1,.i (J6 (Rf.formed s.data.toList) (Eu A 0 ((Rf.fil s.data.toList).2.1.map Rf.Mth.m))).2.1, .i (J6 (Rf.formed s.data.toList) (Eu A 0 ((Rf.fil s.data.toList).2.1.map Rf.Mth.m))).2.2])/\Bl w b:=by
 have a3:=fun w=>Xr s w hs;have b4:=Ac s.data.toList;have d1:=Baa s.data.toList;unfold Yz at a3;generalize J:J6 (Rf.formed s.data.toList) (Eu A 0 ((Rf.fil s.data.toList).2.1.map Rf.Mth.m))=R;unfold J6 at J;generalize Rf.formed s.data.toList=P at *;generalize Rf.fil s.data.toList=Fi at *;obtain⟨P1,P2,P3⟩:=P;obtain⟨cs,t,er⟩:=Fi;simp only at a3 a7 J b4 d1 ⊢;have a8:=Bc a3;have b5:=Bc a7;clear a3 a7;by_cases h1:P1=0
 ·subst h1;rw[Pk Hd]at J;have K:Hid (Eu A 0 ((t.map Rf.Mth.m).drop 0)=R):=J;clear J;go_in;go_wp2_with fail;refine(Ba a8 _).mono ?_;rintro e L ⟨B,n1,D,I,n2,F,rfl,b6,Y⟩;obtain⟨G,j,a4,a9,b0,b1⟩:=b6 (by trivial);obtain⟨xa,xc,Z⟩:=Bh a9.1;simp only[Value.slice.injEq]at Z;obtain⟨rfl,rfl,rfl⟩:=Z;obtain⟨xa,xc,Z⟩:=Bh b1.1;simp only[Value.slice.injEq]at Z;obtain⟨rfl,rfl,rfl⟩:=Z;have b7:G.length=7+cs.length:=by have:=congrArg List.length a4;simp[Rf.given]at this;omega
  have b8:j.length=t.length:=by have:=congrArg List.length b0;simpa using this
  have b9:RFl.ok ⟨B,D,I,F,w.heap.size,G,j⟩ L:=⟨Mc,Mc,Mc,Bgd a4 (p:=fun c=>c.fields.length<=1000) (by
   intro p O;rcases List.mem_append.1 O with O|O
   ·simp[Rf.given]at O;rcases O with rfl|rfl|rfl|rfl|rfl|rfl|rfl<;>simp
   exact b4.2 p O),a9,b1⟩
  have b2:=Y;have d2:=b2.size;have c0:=b9.below (QN (O11 B G.length D I j.length F));have F1:=Be L (O11 B G.length D I j.length F);have c3:=b2.alloc d2 (O11 B G.length D I j.length F);have d3:=Bc a4;have c4:=Bc b0;have f5:=Bc b7;have c5:=Bc b8;clear Y b6 a9 b1 b9 b2 a8 a4 b0 b7 b8;go_wp2
  go_loopw [9] (fun s9 wr=>∃q:Nat,q<=j.length/\s9=.i (q:Int)/\Hid (Eu A q ((t.map Rf.Mth.m).drop q)=R)/\Bl w wr/\wr.heap[L.heap.size]?=some (O11 B G.length D I j.length F)/\RFl.ok ⟨B,D,I,F,w.heap.size,G,j⟩ wr)
   (fun v _=>j.length-(intOf v).toNat)
  case atStart=>exact⟨0,Ck,rfl,K,c3,F1,c0⟩
  case round=>
   clear K c3 F1 c0;obtain⟨q,hq,rfl,K,hB,CF,a5⟩:=hrel;have d4:=hB.size;have lF:=Sp CF;have d5:=a5.2.2.1;simp only at d5;by_cases c6:q<j.length
   ·obtain⟨m,g,hg,z,Ev,hm⟩:=RFl.mth a5 (k:=q) c6;simp only at hg hm;obtain⟨y0,y1,y2,y3,y4,y5,y6,y7,y8,y9,ya,yb⟩:=Oe Ev;have a6:q<t.length:=by have:=Ba c5;omega
    have hx:j[q].1=t[q]:=by
     have:=Ba c4;have h2:(j.map Prod.fst)[q]?=t[q]?:=by rw[this]
     simpa[c6,a6] using h2
    rw[hx]at hm;have hd:(t.map Rf.Mth.m).drop q=t[q].m::(t.map Rf.Mth.m).drop (q+1):=by rw[Brj (by simpa using a6)];simp
    have N:=Ba K;rw[hd,Eu]at N;have d6:=Brn a6;have b3:=Ba b5 (by trivial) ⟨B,D,I,F,w.heap.size,G,j⟩ m t[q] wr.drew hB.drew (a5.below (Brm _ _).drew) (Ba d3) (Ba c4) d6 (hm.below (Brm _ _).drew);generalize t[q]=x at *;generalize A x.m=cr at *;obtain⟨c7,f6⟩:=cr;obtain⟨cl,nm,pa,pl,pc,r1,r2,lo,st,d7,ha,hl,hc,ma,ml,mc,d8,d9⟩:=m;simp only[RFl.val,RMV.val]at b3 N y0 y1 y2 y3 y4 y5 y6 y7 y8 y9 ya yb;subst hg;have c8:=Bc b3;have kb:(q:Int)<(j.length:Int):=Ck;obtain⟨Q,V⟩:=cl2 CF;simp at Q V;clear b3 hd Ev hm K hx a6;have f2:wr.drew.heap[L.heap.size]?=_:=CF;have a0:=N;clear N;go_wp2
    go_region_held3 (fun b=>b.C L.heap.size 0 (.s B G.length D)/\b.C L.heap.size 1 (.s (.p g) j.length F)/\b.C g (q*12) (.i cl)/\b.C g (q*12+1) (.i nm)/\b.C g (q*12+2) (.s pa pl pc)/\b.C g (q*12+3) (.i r1)/\b.C g (q*12+4) (.i r2)/\b.C g (q*12+5) (.i lo)/\b.C g (q*12+6) (.i st)/\b.C g (q*12+7) (.string d7)/\b.C g (q*12+8) (.s ha hl hc)/\b.C g (q*12+9) (.s ma ml mc)/\b.C g (q*12+10) (.i d8)/\b.C g (q*12+11) (.i d9))
     (first|exact⟨Q,V,y0,y1,y2,y3,y4,y5,y6,y7,y8,y9,ya,yb⟩|exact⟨QC h lF Q,QC h lF V,QC h z y0,QC h z y1,QC h z y2,QC h z y3,QC h z y4,QC h z y5,QC h z y6,QC h z y7,QC h z y8,QC h z y9,QC h z ya,QC h z yb⟩)
     (first|(go_at_call 119;refine(Ba c8).mono ?_;rintro e w7 ⟨rfl,h⟩))
    have c9:=hB.drew.trans (h.mono d4);have f3:=stay h f2;have f4:=(a5.below (Brm _ _).drew).below h;clear Q V y0 y1 y2 y3 y4 y5 y6 y7 y8 y9 ya yb h c8;by_cases h0:c7=0
    ·rw[Pk (by simpa using h0)]at a0;have HG:Hid (Eu A (q+1) ((t.map Rf.Mth.m).drop (q+1))=R):=a0;subst h0;clear a0;go_wp2;go_roundw
     case rel=>exact⟨q+1,Ck,Mg,HG,c9,f3,f4⟩
     case measure=>simp[intOf];omega
    rw[Th h0]at a0;obtain rfl:=a0;have f7:(c7 != 0)=true:=by simpa using h0
    clear h0;go_wp2;go_ret3;exact⟨rfl,c9⟩
   have N:=Ba K;rw[Brq (by have:=Ba c5;simp;omega),Eu]at N;obtain rfl:=N;have kb:¬(q:Int)<(j.length:Int):=Ck;obtain⟨Q,V⟩:=cl2 CF;simp at Q V;clear K;go_wp2;go_ret3;exact⟨rfl,hB⟩
 have f8:(P1 != 0)=true:=by simpa using h1
 rw[Th (by simpa using h1)]at J;obtain rfl:=J;clear h1 b5;go_in;go_wp2_with fail;refine(Ba a8 _).mono ?_;rintro e L ⟨B,n1,D,I,n2,F,rfl,-,Y⟩;go_wp2;go_ret3;exact⟨rfl,Y.alloc Y.size _⟩
def Hy (T:TI)(x:Bf):Prop:=(∀t∈x.locals,Tr.Arg T t.1 t.2)/\∀t∈x.stack,Tr.Arg T t.1 t.2
def Bcl(T:TI)(a b:TP)(h:a.length=b.length):Ey T a b=Hw T a b:=by
 unfold Ey;rw[Pk Ck,h,Bus,List.drop_zero]
def Tf{z:TI}(e:Tr.Ok z){x y:Bf}(f:Hy z x)(h:Hy z y):Cj z x y=Km z x y:=by
 unfold Cj Km L4;by_cases b:x.stack.length=y.stack.length
 ·rw[Pk (fun g=>g b),Th b];by_cases c:x.locals.length=y.locals.length;·rw[Pk (fun g=>g c),Th c,Bcl z _ _ c,Bcl z _ _ b,Ni e _ _ f.1 h.1,Ni e _ _ f.2 h.2]
  rw[Th c,Pk c];rfl
 rw[Th b,Pk b,Bool.and_false]
def Bly(T:TI)(b:List Rd.Cls)(c:7<=b.length)(e:∀i,i<7->(b.getD i ⟨0,[]⟩).fields=[])(f:List Rd.Mth)(g:Int×Int)(op:Int)(n:Nat)(h:op=17\/op=18->n<(Rf.fieldsTo T b (b.length-7)).length):Hs (b.map Rd.Cls.fields) f g op (n:Int)=Co (Rf.fieldsTo T b (b.length-7)) f g op (n:Int):=by
 unfold Hs Co;by_cases j:op=17;·subst j;rw[Yx T b c e n (h (.inl rfl)),Brx]
 by_cases l:op=18;·subst l;rw[Yx T b c e n (h (.inr rfl)),Brx]
 simp only[j,l,Btv]
def Bkc(T:TI)(b:List Rd.Cls)(f:7<=b.length)(g:∀i,i<7->(b.getD i ⟨0,[]⟩).fields=[])(c:List Rd.Mth)(op:Int)(n:Nat)(h:op=17->n<(Rf.fieldsTo T b (b.length-7)).length):Gm (b.map Rd.Cls.fields) c op (n:Int)=Dp (Rf.fieldsTo T b (b.length-7)) c op (n:Int):=by
 unfold Gm Dp;by_cases e:op=17;·subst e;rw[Yx T b f g n (h rfl),Brx];simp
 simp only[e,Btv];have:(op=0\/op=24\/op=7\/op=8\/op=9\/op=10)<->(op=0\/op=7\/op=8\/op=9\/op=10\/op=24):=Ck;simp only[this]
def Wx{z:TI}{mp:Int->Option Bf}{x:Bf}{c:Int}(h:mp c=none):Ic z mp x c=true:=by unfold Ic;rw[h];rfl
def Pi{z:TI}(e:Tr.Ok z){mp:Int->Option Bf}{x b:Bf}{c:Int}(h:mp c=some b)(f:Hy z x)(g:Hy z b):Ic z mp x c=Cj z x b:=by
 unfold Ic;rw[h,Tf e f g];rfl
def Bbb{z:TI}{mp:Int->Option Bf}{x:Bf}{c:Int}(h:mp c=none):Jj z mp x c=8:=by unfold Jj;rw[h];rfl
def Bdr{z:TI}(e:Tr.Ok z){mp:Int->Option Bf}{x b:Bf}{c:Int}(h:mp c=some b)(f:Hy z x)(g:Hy z b)(i:Cj z x b=false):Jj z mp x c=9:=by
 unfold Jj;rw[Pk (by rw[h];simp),Th (by rw[Pi e h f g];exact i)]
def Bbc{z:TI}(e:Tr.Ok z){mp:Int->Option Bf}{x b:Bf}{c:Int}(h:mp c=some b)(f:Hy z x)(g:Hy z b)(i:Cj z x b=true):Jj z mp x c=0:=by
 unfold Jj;rw[Pk (by rw[h];simp),Pk (by rw[Pi e h f g,i];simp)]
def X8{z:TI}(i:Tr.Ok z)(mp:Int->Option Bf)(j:∀q b,mp q=some b->Hy z b)(p:Int)(c:TP)(s:∀t∈c,Tr.Arg z t.1 t.2):∀l:List Rd.Hnd,(∀h∈l,Tr.Arg z 3 h.cl) ->
  Gj z mp p c l=Fb z mp p c l
 | [],_=>rfl
 | h::r,hh=>by
  have C:=X8 i mp j p c s r (fun x g=>hh x (by simp[g]));rw[Gj,Fb,C];unfold Fo;by_cases v:p<h.frm;·have e:decide (h.frm<=p)=false:=Fr;rw[e,Bt6,Th rfl,Th v]
  have e:decide (h.frm<=p)=true:=Fr;rw[e,Bts,Pk v];by_cases A:h.til<=p;·have m:decide (p<h.til)=false:=Fr;rw[m,Th rfl,Th A]
  have m:decide (p<h.til)=true:=Fr;rw[m,Pk Hd,Pk A];cases f:mp h.target with
  | none =>
   rw[Bbb f,Th (show (8:Int)≠0 by decide),Th (show (none:Option Bf).isSome=false from rfl)]
  | some b =>
   have g:Hy z ⟨c,[(3,h.cl)]⟩:=⟨s,fun t D=>by obtain rfl:=List.mem_singleton.1 D;exact hh h Hd⟩;have F:Cu (some b)=b:=rfl;rw[F,Pk (show ¬(some b).isSome=false by simp)];cases B:Cj z ⟨c,[(3,h.cl)]⟩ b with
   | false=>rw[Bdr i f g (j _ _ f) B,Th (show (9:Int)≠0 by decide),Th rfl]
   | true=>rw[Bbc i f g (j _ _ f) B,Pk (show ¬(0:Int)≠0 by decide),Pk (show ¬true=false by decide)]
def Bo1{z:TI}(l:Tr.Ok z)(mp:Int->Option Bf)(m:∀q b,mp q=some b->Hy z b)(H:Int)(B:Option Bf)(A:∀y,B=some y->Hy z y)(op n f g:Int):Pz z mp H B op n f g=J1 z mp H B op n f g:=by
 unfold Pz J1;by_cases h:H≠0;·rw[Th h,Th h]
 rw[Pk h,Pk h];cases B with
 | none=>rfl
 | some y =>
  have p:=A y rfl;have e:Cu (some y)=y:=rfl;rw[Pk (show ¬(some y).isSome=false by simp),Pk (show ¬(some y).isSome=false by simp),e];have v:(if Dl op=false then 0 else P4 z mp g y f)=(if Dl op=false then 0 else if g<=f then 11 else if (mp f).isSome=true/\Cj z y (Cu (mp f))=false then 9 else 0):=by
   by_cases i:Dl op=false;·rw[Th i,Th i]
   rw[Pk i,Pk i];unfold P4;by_cases j:g<=f;·rw[Th j,Th j]
   rw[Pk j,Pk j];cases c:mp f with
   | none=>rw[Wx c,Pk Hd,Pk Hd]
   | some b =>
    have s:Cu (some b)=b:=rfl;rw[Pi l c p (m _ _ c),s];cases t:Cj z y b with
    | false=>rw[Th rfl,Th ⟨rfl,rfl⟩]
    | true=>rw[Pk Hd,Pk Hd]
  cases C:Ei op with
  | false=>rw[Pk (show ¬(false=true/\Jj z mp y n≠0) by simp),Pk (show ¬(false=true/\(mp n).isSome=false) by simp),Pk (show ¬(false=true/\Cj z y (Cu (mp n))=false) by simp)];exact v
  | true =>
   cases c:mp n with
   | none=>rw[Bbb c,Th (show true=true/\(8:Int)≠0 by decide),Th (show true=true/\(none:Option Bf).isSome=false from ⟨rfl,rfl⟩)]
   | some b =>
    have s:Cu (some b)=b:=rfl;rw[s];cases t:Cj z y b with
    | false=>rw[Bdr l c p (m _ _ c) t,Th (show true=true/\(9:Int)≠0 by decide),Pk (show ¬(true=true/\(some b).isSome=false) by simp),Th (show true=true/\false=false from ⟨rfl,rfl⟩)]
    | true =>
     rw[Bbc l c p (m _ _ c) t,Pk (show ¬(true=true/\(0:Int)≠0) by decide),Pk (show ¬(true=true/\(some b).isSome=false) by simp),Pk (show ¬(true=true/\true=false) by decide)];exact v
def Zf(c:TI):∀(k p:Nat),(∀q∈Cd.starts c k p,p<=q)/\(Cd.starts c k p).Pairwise (· < ·)
 | 0,p=>by simp[Cd.starts]
 | k+1,p=>by
  have g:=Cd.wd_bd (c.getD p 0);obtain⟨e,f⟩:=Zf c k (p+Cd.wd (c.getD p 0));unfold Cd.starts
  split
  ·refine⟨fun q b=>?_,List.pairwise_cons.2 ⟨fun q b=>?_,f⟩⟩
   ·rcases List.mem_cons.1 b with rfl|b
    ·exact Bru _
    have:=e q b;omega
   have:=e q b;omega
  simp
def Baw(c:TI):(Cd.places c).Pairwise (· < ·):=(Zf c c.length 0).2
def Bai(mp:Int->Option Bf)(j:Nat->Bf->Option Bf)(b:Nat->Bf->Int)(c:TI)(l:Cd.Ins->Bf->Int)(m:Cd.Ins->Bf->Option Bf)(P:Bf->Prop)(v:∀q z,mp q=some z->P z) :
  ∀(s:List Nat),(∀p∈s,∀x,P x->l (Cd.insAt c p) x=b p x/\(b p x=0->∃y,j p x=some y/\m (Cd.insAt c p) x=some y/\P y))->∀o:Option Bf,(∀x,o=some x->P x) ->
   Ms mp l m (s.map (Cd.insAt c)) o=Rh (fun p=>mp (p:Int)) j (fun p=>Dl (c.getD p 0)) b s o
 | [],_,_,_=>rfl
 | p::r,h,o,ho=>by
  have A:=Bai mp j b c l m P v r (fun q e=>h q (by simp[e]));rw[Bsw,Ms,Rh];have B:(Cd.insAt c p).place=(p:Int):=rfl;have C:(Cd.insAt c p).op=c.getD p 0:=rfl;rw[B,C];cases f:(mp (p:Int)).or o with
  | none=>exact A none (fun x D=>by cases D)
  | some x =>
   have F:P x:=by
    cases e:mp (p:Int) with
    | none=>rw[e]at f;exact ho x f
    | some z=>rw[e]at f;obtain rfl:=Option.some.inj f;exact v _ _ e
   obtain⟨G,g2⟩:=h p Hd x F;simp only;rw[G];by_cases i:b p x=0
   ·rw[Pk (show ¬b p x≠0 from fun g=>g i),Pk (show ¬b p x≠0 from fun g=>g i)];obtain⟨y,I,J,K⟩:=g2 i;have L:J0 (fun p=>mp (p:Int)) j (fun p=>Dl (c.getD p 0)) p o=if Dl (c.getD p 0)=true then some y else none:=by
     unfold J0;simp only;rw[f];simp only[Bt7];rw[I];rfl
    rw[L,J];refine A _ (fun N t=>?_)
    split at t
    ·obtain rfl:=Option.some.inj t;exact K
    cases t
   rw[Th (show b p x≠0 from i),Th (show b p x≠0 from i)]
def Bd9{z:TI}(A:Tr.Ok z)(mp:Int->Option Bf)(g:Nat->Bf->Option Bf)(f:Nat->Bf->Int)(c:TI)(i:Cd.Ins->Bf->Int)(j:Cd.Ins->Bf->Option Bf)(P:Bf->Prop)(m:∀x,P x->Hy z x)(s:∀q b,mp q=some b->P b)(e:Bf)(t:P e) (h:∀p∈Cd.places c,∀x,P x->i (Cd.insAt c p) x=f p x/\(f p x=0->∃y,g p x=some y/\j (Cd.insAt c p) x=some y/\P y)):P8 z mp i j (Cd.insts c) e=La z (mp 0) e (fun q=>Gu (fun p=>mp (p:Int)) g (fun p=>Dl (c.getD p 0)) q (Cd.places c) (some e)) f (Cd.places c):=by
 unfold P8 La Cd.insts;have v:=Wq (fun p=>mp (p:Int)) g (fun p=>Dl (c.getD p 0)) f (some e) (Cd.places c) [] (by simpa using Baw c);simp only[Btz,List.foldl_nil]at v;rw[v,Bai mp g f c i j P s (Cd.places c) h (some e) (fun x B=>by obtain rfl:=Option.some.inj B;exact t)];cases l:mp 0 with
 | none=>rw[Wx l,Pk (show ¬true=false by decide),Pk (show ¬((none:Option Bf).isSome=true/\Cj z e (Cu none)=false) by simp)]
 | some b =>
  have C:Cu (some b)=b:=rfl;rw[Pi A l (m _ t) (m _ (s _ _ l)),C];cases D:Cj z e b with
  | false=>rw[Th rfl,Th (show (some b).isSome=true/\false=false from ⟨rfl,rfl⟩)]
  | true=>rw[Pk (show ¬true=false by decide),Pk (show ¬((some b).isSome=true/\true=false) by simp)]
def Ab(f g:Rd.Mth->Int×Int):∀(b:List Rd.Mth) (k:Nat),(∀m∈b,f m=g m)->Ff f k b=Eu g k b
 | [],_,_=>rfl
 | m::r,k,h=>by rw[Ff,Eu,h m Hd,Ab f g r (k+1) (fun x c=>h x (by simp[c]))]
def Bbg{z:TI}{i:List Rd.Mth}:∀(l:List Rd.Mth) (k:Nat),Gt z i k l<0->∀m∈l,∃j,Hv z i j m=true
 | [],_,_=>Hd
 | m::r,k,h=>by
  rw[Gt]at h;by_cases b:Hv z i k m=false;·rw[Th b]at h;omega
  rw[Pk b]at h;intro x c;rcases List.mem_cons.1 c with rfl|c
  ·exact⟨k,by simpa using b⟩
  exact Bbg r _ h x c
def Ah{z:TI}{c:Int}{e:TI}:∀(l:List Rd.Mth) (k:Nat),(Je z c e k l).1=0->∀m∈l,(Mu z c e m).1=0
 | [],_,_=>Hd
 | m::r,k,h=>by
  rw[Je]at h;by_cases b:(Mu z c e m).1≠0;·rw[Th b]at h;exact absurd h b
  rw[Pk b]at h;intro x f;rcases List.mem_cons.1 f with rfl|f
  ·simpa using b
  exact Ah r _ h x f
def Bdu{z:TI}:∀(l:List Rd.Cls) (k:Nat),(Tr.inCl z k l).1=0->∀c∈l,Tr.allPlainB z c.fields=true
 | [],_,_=>Hd
 | c::r,k,h=>by
  rw[Tr.inCl]at h;by_cases f:7+(k:Int)<=c.above;·rw[Th f]at h;simp at h
  rw[Pk f]at h;by_cases b:Tr.allPlainB z c.fields=false;·rw[Th b]at h;simp at h
  rw[Pk b]at h;intro x e;rcases List.mem_cons.1 e with rfl|e
  ·simpa using b
  exact Bdu r _ h x e
def Yb{α:Type}{f:α->Bool}:∀(l:List α) (k:Nat),Cd.firstIx f k l<0->∀x∈l,f x=false
 | [],_,_=>Hd
 | x::r,k,h=>by
  rw[Cd.firstIx]at h;by_cases b:f x=true;·rw[Th b]at h;omega
  rw[Pk b]at h;intro y c;rcases List.mem_cons.1 c with rfl|c
  ·simpa using b
  exact Yb r _ h y c
def Xy{z c:TI}:∀(l:List Rd.Mp) (i:Nat) (b:Int),Cd.mapsBad z c i b l<0->∀x∈l,Cd.frAll z c x.locals=true/\Cd.frAll z c x.stack=true/\Cd.begB c x.place=true
 | [],_,_,_=>Hd
 | m::r,i,b,h=>by
  rw[Cd.mapsBad]at h;by_cases e:Cd.begB c m.place=false;·rw[Th e]at h;omega
  rw[Pk e]at h;by_cases p:m.place<=b;·rw[Th p]at h;omega
  rw[Pk p]at h;by_cases f:Cd.frAll z c m.locals=false;·rw[Th f]at h;omega
  rw[Pk f]at h;by_cases g:Cd.frAll z c m.stack=false;·rw[Th g]at h;omega
  rw[Pk g]at h;intro y j;rcases List.mem_cons.1 j with rfl|j
  ·exact⟨by simpa using f,by simpa using g,by simpa using e⟩
  exact Xy r _ _ h y j
structure W6(m:Rd.Mth):Prop where
 lo:0<=m.locals/\m.locals<=8
 st:0<=m.stack/\m.stack<=8
 ml:∀q∈m.maps,q.locals.length=m.locals.toNat/\(q.stack.length:Int)<=m.stack
 c255:∀x∈m.code,x<=255
def Bqj(s:TB)(L H:Int)(b:0<=H)(t:Rd.St):(Rd.mp s L H t).1.locals.length=L.toNat/\((Rd.mp s L H t).1.stack.length:Int)<=H:=by
 simp only[Rd.mp,Rd.tys,Rd.rep_len];have:=Rd.cn_bd s 0 H (Rd.rep (Rd.ty s) L.toNat (Rd.nx s t).2).2 b;exact⟨trivial,Ck⟩
def Bqd(s:TB)(t:Rd.St):W6 (Rd.mth s t).1:=by
 simp only[Rd.mth];generalize (Rd.nx s (Rd.nx s t).2).2=e;generalize Rd.cn s 0 4 e=p at *;generalize (Rd.tys s p.1.toNat p.2).2=f;generalize (Rd.ty s f).2=b;have g:=Rd.cn_bd s 0 8 b Ck;generalize Rd.cn s 0 8 b=l at *;have c:=Rd.cn_bd s 0 8 l.2 Ck;generalize Rd.cn s 0 8 l.2=h at *;refine⟨g,c,?_,by simp only[Rd.codes];exact Ot (fun x:Int=>x<=255) _ (fun t=>(Rd.nx_bd s t).2) _ _⟩;simp only[Rd.mps];exact Ot (fun q:Rd.Mp=>q.locals.length=l.1.toNat/\(q.stack.length:Int)<=h.1) _ (fun t=>Bqj s l.1 h.1 c.1 t) _ _
def Bon(s:TB):∀m∈(Rd.read s).1.methods,W6 m:=by
 unfold Rd.read
 split
 ·simp
 split
 ·simp
 simp only[Rd.fil];exact Ot W6 _ (fun t=>Bqd s t) _ _
structure Pa(T:List Int)(nf:Int)(ms:List Rd.Mth)(m:Rd.Mth):Prop where
 bd:Rz m
 rd:W6 m
 unread:Cd.unread m.code<0
 arg:∀p∈Cd.places m.code,Cd.argAt T nf (ms.map Rd.Mth.cl) m.locals m.code p=true
 hnd:∀h∈m.handlers,Cd.hndBad T m.code h=false
 map:∀q∈m.maps,Cd.frAll T m.code q.locals=true/\Cd.frAll T m.code q.stack=true/\Cd.begB m.code q.place=true
 cl:m.cl=255\/Tr.hasB T m.cl=true
 res:Tr.plainB T m.result.1 m.result.2=true\/m.result=(0,0)
 ps:Tr.allPlainB T m.params=true
 own:((Iy m.cl m.params).length:Int)<=m.locals
def Bk6{z:TI}{c:Int}{i:List Rd.Mth}{K:Rd.Mth}(t:Rz K)(v:W6 K)(A:∃j,Hv z i j K=true)(h:(Mu z c (i.map Rd.Mth.cl) K).1=0):Pa z c i K:=by
 unfold Mu at h;by_cases e:0<=Cd.badCode z c (i.map Rd.Mth.cl) K.locals K.code;·rw[Th e]at h;simp at h
 rw[Pk e]at h;by_cases s:0<=Cd.firstIx (Cd.hndBad z K.code) 0 K.handlers;·rw[Th s]at h;simp at h
 rw[Pk s]at h;by_cases B:0<=Cd.mapsBad z K.code 0 (-1) K.maps;·rw[Th B]at h;simp at h
 unfold Cd.badCode at e;have l:Cd.unread K.code<0:=by
  by_cases l:0<=Cd.unread K.code;·rw[Th l]at e;exact absurd l e
  omega
 rw[Pk Ck]at e;obtain⟨j,b⟩:=A;unfold Hv On at b;by_cases f:Vf z K.cl K.name K.result.1 K.result.2=true;·rw[Th f]at b;simp at b
 rw[Pk f]at b;by_cases g2:Tr.allPlainB z K.params=false;·rw[Th g2]at b;simp at b
 rw[Pk g2]at b;by_cases g3:Lv K.cl K.locals K.params=true;·rw[Th g3]at b;simp at b
 unfold Vf at f;unfold Lv at g3;simp only[Bwj,Bsq,Bsv,Bool.not_eq_true',Bti,not_or,not_and]at f g3;have g4:Cd.firstIx (Cd.hndBad z K.code) 0 K.handlers<0:=Ck;have g5:Cd.mapsBad z K.code 0 (-1) K.maps<0:=Ck;have g6:Cd.first (Cd.badArg z c (i.map Rd.Mth.cl) K.locals K.code) (Cd.places K.code)<0:=Ck
 refine⟨t,v,l,?_,Yb _ _ g4,Xy _ _ _ g5,?_,?_,by simpa using g2,?_⟩
 ·intro p q;have:=Wy g6 p q;unfold Cd.badArg at this;simpa using this
 ·by_cases g:K.cl=255;·exact .inl g
  have:=f.1;rw[Pk g]at this;simp at this;exact .inr this.1
 ·by_cases q:Tr.plainB z K.result.1 K.result.2=true;·exact .inl q
  have:=f.2 (by simpa using q);exact .inr (by simpa[Prod.ext_iff] using this)
 unfold Iy;by_cases g:K.cl=255;·rw[Th g];simp;omega
 rw[Pk g];have:=g3.2 g;simp;omega
structure Kn(cs:List Rd.Cls)(ms:List Rd.Mth):Prop where
 ok:Tr.Ok (Tr.tree cs)
 l6:cs.length<=6
 m6:ms.length<=6
 fn:∀c∈cs,c.fields.length<=1000
 fl:∀c∈cs,Tr.allPlainB (Tr.tree cs) c.fields=true
 mt:∀m∈ms,Pa (Tr.tree cs) (Cd.fieldSum cs:Int) ms m
def Kb(s:TB)(h:(Rf.formed s).1=0):Kn (Rd.read s).1.classes (Rd.read s).1.methods/\(Rf.fil s).1=(Rd.read s).1.classes/\(Rf.fil s).2.1.map Rf.Mth.m=(Rd.read s).1.methods:=by
 rw[<- Rn]at h;obtain⟨l,p⟩:=Aw s;obtain⟨q,f⟩:=Yo s;have t:=Bon s;unfold Gx at h;by_cases c:(Rd.read s).2≠0;·rw[Th c]at h;exact absurd h c
 rw[Pk c]at h;obtain⟨v,z⟩:=(Yp s).2 (by simpa using c);refine⟨?_,v.symm,z.symm⟩;unfold Lo at h;by_cases e:(Tr.inCl (Tr.tree (Rd.read s).1.classes) 0 (Rd.read s).1.classes).1≠0;·rw[Th e]at h;exact absurd h e
 rw[Pk e]at h;have g:(Tr.inCl (Tr.tree (Rd.read s).1.classes) 0 (Rd.read s).1.classes).1=0:=by simpa using e
 have i:=Bfq _ (Bcw s) g;have C:=Ie (Rd.read s).1.classes;rw[Bfx i Ck Ck _ _ (fun o A=>(f o A).cl) (fun m b=>(f m b).code0)]at h;unfold Rg at h;by_cases j:0<=Gt (Tr.tree (Rd.read s).1.classes) (Rd.read s).1.methods 0 (Rd.read s).1.methods;·rw[Th j]at h;simp at h
 rw[Pk j]at h;have B:Gt (Tr.tree (Rd.read s).1.classes) (Rd.read s).1.methods 0 (Rd.read s).1.methods<0:=Ck;exact⟨i,l,q,p,Bdu _ _ g,fun m b=>Bk6 (f m b) (t m b) (Bbg _ _ B m b) (Ah _ _ h m b)⟩
def Cd.atI(c:TI)(i:Int):Int:=if i<0 then -1 else if (c.length:Int)<=i then -1 else c.getD i.toNat 0
def Ll(s:ByteArray)(i:Int):Rf.at' s.data.toList i=Cd.atI (Ca s) i:=by
 unfold Rf.at' Cd.atI;rw[He];have c:s.data.toList.length=s.size:=Hd;rw[c];by_cases h:i<0;·rw[Th h,Th h]
 rw[Pk h,Pk h];by_cases b:(s.size:Int)<=i;·rw[Th b,Th b]
 rw[Pk b,Pk b];unfold Ca;simp only[Vm,Bsf];have:i.toNat<s.data.toList.length:=Ck;rw[Brl this];rfl
def Xd(c:TI)(p:Nat):Cd.nAt c p=Cd.atI c ((p:Int)+1):=by
 unfold Cd.nAt Cd.atI;rw[Pk (show ¬(p:Int)+1<0 by omega)];by_cases h:p+1<c.length
 ·rw[Th h,Pk Ck]
  congr 1
 rw[Pk h,Th Ck]
def Nw{z:TI}(h:Cd.unread z<0):∀p∈Cd.places z,z.getD p 0<=25/\p+Cd.wd (z.getD p 0)<=z.length:=by
 intro p b;have:=Wy h p b;unfold Cd.noRead at this;simp at this;simpa using this
def Vv{c:TI}{p:Nat}(h:p+Cd.wd (c.getD p 0)<=c.length)(b:Cd.wd (c.getD p 0)=2):(Cd.insAt c p).n=Cd.atI c ((p:Int)+1)/\Cd.atI c ((p:Int)+1)=c.getD (p+1) 0:=by
 have:Cd.atI c ((p:Int)+1)=c.getD (p+1) 0:=by
  rw[<- Xd];unfold Cd.nAt;rw[Th Ck]
 refine⟨?_,this⟩;rw[this];unfold Cd.insAt;simp only;rw[Th b]
def Bou{z:TI}{F:List Rf.Fld}{i:List Rd.Mth}{e:Int->List (Int×Int)}{arg:Int->Int}{C:Int×Int}{c op:Int}{x:Bf}(h:Cd.wd op=1)(n b:Int):D7 z F i e arg C c op n x=D7 z F i e arg C c op b x:=by
 have l:¬(op=0\/op=2\/op=3\/(11<=op/\op<=21)):=by
  intro g;unfold Cd.wd at h;rw[Th g]at h;omega
 have f:Co F i C op n=Co F i C op b:=by
  unfold Co;simp only[show op≠17 by omega,show op≠18 by omega,show op≠20 by omega,show op≠21 by omega,Btv]
 have j:Dp F i op n=Dp F i op b:=by
  unfold Dp;simp only[show op≠17 by omega,show op≠19 by omega,show op≠20 by omega,show op≠21 by omega,Btv,false_or]
 unfold D7;rw[f,j];simp only[show op≠2 by omega,show op≠3 by omega,show op≠16 by omega,Btv]
def Bqn{z:TI}{mp:Int->Option Bf}{H:Int}{R:Option Bf}{op b c:Int}(h:Cd.wd op=1)(n f:Int):J1 z mp H R op n b c=J1 z mp H R op f b c:=by
 have i:¬(op=0\/op=2\/op=3\/(11<=op/\op<=21)):=by
  intro g;unfold Cd.wd at h;rw[Th g]at h;omega
 have e:Ei op=false:=by unfold Ei;simp;omega
 unfold J1;simp only[e,Bool.false_eq_true,false_and,Btv]
def Kh{z:TI}{n:Int}:Tr.hasB z n=true<->0<=n/\n<(z.length:Int):=by unfold Tr.hasB;simp
def Ha{z:TI}{C:Int×Int}(h:Tr.plainB z C.1 C.2=true):Tr.Arg z C.1 C.2/\C.1≠4:=by
 unfold Tr.plainB at h;by_cases b:C.1=1;·rw[Th b]at h;exact⟨.inr (.inl ⟨b,by simpa using h⟩),Ck⟩
 rw[Pk b]at h;by_cases c:C.1=3;·rw[Th c]at h;exact⟨.inr (.inr (.inr (.inl ⟨c,Kh.1 h⟩))),Ck⟩
 rw[Pk c]at h;simp at h
def Yr{z:TI}{b:Int->Prop}{C:Int×Int}(h:Tr.plainB z C.1 C.2=true):I9 z b C:=⟨(Ha h).1,fun g=>absurd g (Ha h).2⟩
def Nn{z:TI}{q:TP}(h:Tr.allPlainB z q=true):∀t∈q,Tr.plainB z t.1 t.2=true:=fun t b=>by
 unfold Tr.allPlainB at h;exact List.all_eq_true.1 h t b
def Us{z:TI}{n:Int}(h:0<=n/\n<(z.length:Int)):Tr.Arg z 3 n:=.inr (.inr (.inr (.inl ⟨rfl,h⟩)))
def Bbi{z:TI}{r:Int×Int}(h:Tr.plainB z r.1 r.2=true\/r=(0,0)):∀t∈Ds r,Tr.plainB z t.1 t.2=true:=by
 intro t b;unfold Ds at b
 split at b
 ·simp at b
 rename_i c;obtain rfl:=List.mem_singleton.1 b;rcases h with h|h
 ·exact h
 rw[h]at c;exact absurd rfl c
def Ba2{c B:Int}{own:TP}:∀(k:Nat),k<=own.length->∀f∈Rf.ownTo c B own k,f.owner=c/\f.t∈own
 | 0,_=>by simp[Rf.ownTo]
 | k+1,h=>by
  intro f b;rw[Rf.ownTo]at b;rcases List.mem_append.1 b with b|b
  ·exact Ba2 k Ck f b
  obtain rfl:=List.mem_singleton.1 b;exact⟨rfl,Hf Ck⟩
def Ou:Rf.given.length=7:=rfl
def Bnc(b:List Rd.Cls)(j:Nat):(Rf.given++b).getD (7+j) ⟨0,[]⟩=b.getD j ⟨0,[]⟩:=by
 rw[Vm,Br0 (by rw[Ou];omega),Ou,<- Vm]
 congr 1;omega
def Nf(b:List Rd.Cls)(i:Nat)(h:i<7):((Rf.given++b).getD i ⟨0,[]⟩).fields=[]:=by
 rw[Vm,Br6 (by rw[Ou];omega)];have:i=0\/i=1\/i=2\/i=3\/i=4\/i=5\/i=6:=Ck;rcases this with rfl|rfl|rfl|rfl|rfl|rfl|rfl<;>rfl
def Bbo{z:TI}{m:List Rd.Cls}(h:∀c∈m,Tr.allPlainB z c.fields=true)(d:Nat):∀t∈((Rf.given++m).getD d ⟨0,[]⟩).fields,Tr.plainB z t.1 t.2=true:=by
 by_cases b:d<7;·rw[Nf m d b];simp
 obtain⟨j,rfl⟩:∃j,d=7+j:=⟨d-7,Ck⟩;rw[Bnc];by_cases e:j<m.length;·exact Nn (h _ (Hf e))
 rw[Vm,Bs3 Ck];simp
def Ad{z:TI}{m:List Rd.Cls}(h:∀c∈m,Tr.allPlainB z c.fields=true):∀(j:Nat),∀f∈Rf.fieldsTo z (Rf.given++m) j,(7<=f.owner/\f.owner<7+(j:Int))/\Tr.plainB z f.t.1 f.t.2=true
 | 0=>by simp[Rf.fieldsTo]
 | j+1=>by
  intro f e;rw[Rf.fieldsTo]at e;rcases List.mem_append.1 e with e|e
  ·obtain⟨a,b⟩:=Ad h j f e;exact⟨Ck,b⟩
  unfold Rf.ownOf at e;obtain⟨a,b⟩:=Ba2 _ (Bru _) f e;exact⟨Ck,Bbo h _ _ b⟩
def Ub{z:TI}{m:List Rd.Cls}(h:∀c∈m,Tr.allPlainB z c.fields=true)(c:Int):∀(d:Nat),∀t∈Rf.allTo z (Rf.given++m) c d,Tr.plainB z t.1 t.2=true
 | 0=>by simp[Rf.allTo]
 | d+1=>by
  intro t b;rw[Rf.allTo]at b;rcases List.mem_append.1 b with b|b
  ·exact Ub h c d t b
  split at b
  ·exact Bbo h d t b
  simp at b
def W9 (c:TI)(q:Int):Prop:=Cd.begB c q=true/\c.getD q.toNat 0=15
def Io (T:TI)(m:Rd.Mth)(x:Bf):Prop:=As T m.locals.toNat m.stack (W9 m.code) x
def Cp (cs:List Rd.Cls):List Rf.Fld:=Rf.fieldsTo (Tr.tree cs) (Rf.given++cs) cs.length
def D9 (m:Rd.Mth)(q:Int):Option Bf:=Gc q m.maps
def Er (m:Rd.Mth):Bf:=Lg m.cl m.params m.locals.toNat
def Ec (cs:List Rd.Cls)(ms:List Rd.Mth)(m:Rd.Mth)(p:Nat)(x:Bf):Option Bf :=
 Es m.stack (D7 (Tr.tree cs) (Cp cs) ms (fun c=>Rf.all (Tr.tree cs) (Rf.given++cs) c.toNat) (fun q=>Cd.atI m.code (q+1)) m.result (p:Int) (m.code.getD p 0) (Cd.atI m.code ((p:Int)+1)) x)
def Nt (cs:List Rd.Cls)(ms:List Rd.Mth)(m:Rd.Mth)(p:Nat)(x:Bf):Int :=
 J1 (Tr.tree cs) (D9 m) (Fb (Tr.tree cs) (D9 m) (p:Int) x.locals m.handlers) (Ec cs ms m p x) (m.code.getD p 0) (Cd.atI m.code ((p:Int)+1)) ((p+Cd.wd (m.code.getD p 0):Nat):Int) (m.code.length:Int)
def Gs (cs:List Rd.Cls)(ms:List Rd.Mth)(m:Rd.Mth)(q:Nat):Option Bf :=
 Gu (fun p=>D9 m (p:Int)) (Ec cs ms m) (fun p=>Dl (m.code.getD p 0)) q (Cd.places m.code) (some (Er m))
def Hk (cs:List Rd.Cls)(ms:List Rd.Mth)(m:Rd.Mth):Int × Int :=
 La (Tr.tree cs) (D9 m 0) (Er m) (Gs cs ms m) (Nt cs ms m) (Cd.places m.code)
def Mn (cs:List Rd.Cls):List (List (Int × Int)):=(Rf.given++cs).map Rd.Cls.fields
def It (cs:List Rd.Cls)(ms:List Rd.Mth)(m:Rd.Mth)(i:Cd.Ins)(x:Bf):Option Bf :=
 L3 (Tr.tree cs) m.stack (Hs (Mn cs) ms m.result i.op i.n) (Gm (Mn cs) ms i.op i.n) (Dk (Tr.tree cs) (Mn cs) i.n) (J4 (Cd.readL m.code) i.n) i.place i.op i.n x
def Ol (cs:List Rd.Cls)(ms:List Rd.Mth)(m:Rd.Mth)(i:Cd.Ins)(x:Bf):Int :=
 Pz (Tr.tree cs) (D9 m) (Gj (Tr.tree cs) (D9 m) i.place x.locals m.handlers) (It cs ms m i x) i.op i.n ((i.place.toNat+Cd.wd i.op:Nat):Int) (m.code.length:Int)
def Ld (cs:List Rd.Cls)(ms:List Rd.Mth)(m:Rd.Mth):Int × Int :=
 P8 (Tr.tree cs) (D9 m) (Ol cs ms m) (It cs ms m) (Cd.readL m.code) (Er m)
def Lh{z:TI}{K:Rd.Mth}{x:Bf}(h:Io z K x):Hy z x:=⟨fun t b=>(h.tl t b).1,fun t b=>(h.ts t b).1⟩
def Bj7{l:List Rd.Mp}{c:Int}{z:Bf}(h:Gc c l=some z):∃y∈l,z=⟨y.locals,y.stack⟩:=by
 induction l with
 | nil=>simp[Gc]at h
 | cons y r ih =>
  rw[Gc]at h
  split at h
  ·exact⟨y,Hd,(Option.some.inj h).symm⟩
  obtain⟨b,f,e⟩:=ih h;exact⟨b,by simp[f],e⟩
def Bkr{z c:TI}(i:c.length<=120){C:Int×Int}(h:Cd.framed z c C.1 C.2=true):I9 z (W9 c) C:=by
 unfold Cd.framed at h;by_cases b:C.1=0\/C.1=1\/C.1=2
 ·rw[Th b]at h;have:C.2=0:=by simpa using h
  refine⟨?_,fun g=>Ck⟩;rcases b with b|b | b
  ·exact .inl ⟨b,this⟩
  ·exact .inr (.inl ⟨b,this⟩)
  exact .inr (.inr (.inl ⟨b,this⟩))
 rw[Pk b]at h;by_cases e:C.1=3;·rw[Th e]at h;exact⟨by rw[e];exact Us (Kh.1 h),fun g=>Ck⟩
 rw[Pk e]at h;by_cases f:C.1=4;·rw[Th f]at h;simp only[Bsq,Bvb]at h;have:=Mr h.1;exact⟨.inr (.inr (.inr (.inr ⟨f,Ck,Ck⟩))),fun _=>h⟩
 rw[Pk f]at h;simp at h
def Bd4{z c:TI}(b:c.length<=120){q:TP}(h:Cd.frAll z c q=true):∀t∈q,I9 z (W9 c) t:=fun t e=>Bkr b (List.all_eq_true.1 h t e)
def Rp{z:TI}{c:Int}{i:List Rd.Mth}{K:Rd.Mth}(g:Pa z c i K){B:Int}{e:Bf}(h:D9 K B=some e):Io z K e:=by
 obtain⟨y,j,rfl⟩:=Bj7 h;obtain⟨a,b,_⟩:=g.map y j;obtain⟨f,d⟩:=g.rd.ml y j;exact⟨f,d,Bd4 g.bd.code a,Bd4 g.bd.code b⟩
def Pt{z:TI}{c:Int}{i:List Rd.Mth}{K:Rd.Mth}(g:Pa z c i K):Io z K (Er K):=by
 have j:=g.own;have l:=g.rd.lo;have e:=g.rd.st;refine⟨?_,by simpa[Er,Lg] using e.1,?_,by simp[Er,Lg]⟩
 ·simp only[Er,Lg,Ws,Bwu];omega
 intro t b;simp only[Er,Lg]at b;rcases List.mem_append.1 b with b|b
 ·unfold Iy at b;rcases List.mem_append.1 b with b|b
  ·split at b
   ·simp at b
   rename_i f;obtain rfl:=List.mem_singleton.1 b;exact⟨Us (Kh.1 (g.cl.resolve_left f)),fun h=>by simp at h⟩
  exact Yr (Nn g.ps t b)
 rw[(List.mem_replicate.1 b).2];exact Yj _ _
structure Vg(T:List Int)(nf:Int)(ms:List Rd.Mth)(m:Rd.Mth)(op n:Int):Prop where
 loc:op=2\/op=3->0<=n/\n<m.locals
 cls:op=15\/op=16\/op=19->0<=n/\n<(T.length:Int)
 fld:op=17\/op=18->0<=n/\n<nf
 mth:op=20\/op=21->0<=n/\n<(ms.length:Int)
 own:op=21->(ms.getD n.toNat ⟨0,0,[],(0,0),0,0,[],[],[]⟩).cl≠255
def Sz{z:TI}{c:Int}{i:List Rd.Mth}{K:Rd.Mth}(g:Pa z c i K){u:Nat}(j:u∈Cd.places K.code):Vg z c i K (K.code.getD u 0) (Cd.atI K.code ((u:Int)+1)):=by
 have b:=g.arg u j;obtain⟨t,l⟩:=Nw g.unread u j;unfold Cd.argAt at b;rw[Xd]at b;have q:Cd.wd (K.code.getD u 0)=2->0<=Cd.atI K.code ((u:Int)+1):=fun s=>by
  rw[(Vv l s).2];exact Vx g.bd.code0 _
 generalize Cd.atI K.code ((u:Int)+1)=n at *;generalize K.code.getD u 0=op at *;have f:op=2\/op=3\/(11<=op/\op<=21)->0<=n:=fun h=>q (by unfold Cd.wd;rw[Th Ck]);unfold Cd.argB at b;refine⟨fun h=>?_,fun h=>?_,fun h=>?_,fun h=>?_,fun h=>?_⟩
 ·rw[Th h]at b;exact⟨f Ck,by simpa using b⟩
 ·rw[Pk Ck,Pk Ck,Th h]at b;exact Kh.1 b
 ·rw[Pk Ck,Pk Ck,Pk Ck,Th h]at b;exact⟨f Ck,by simpa using b⟩
 ·refine⟨f Ck,?_⟩;rw[Pk Ck,Pk Ck,Pk Ck,Pk Ck]at b;rcases h with h|h
  ·rw[Th h]at b;simp at b;exact_mod_cast b.1
  rw[Pk Ck,Th h]at b;simp at b;exact_mod_cast b.1
 have v:=f Ck;rw[Pk Ck,Pk Ck,Pk Ck,Pk Ck,Pk Ck,Th h]at b;simp only[Bsq,Bsv,bne_iff_ne,ne_eq,Br1]at b;have e:(List.map Rd.Mth.cl i).getD n.toNat 0=(i.getD n.toNat ⟨0,0,[],(0,0),0,0,[],[],[]⟩).cl:=by
  simp only[Vm,Bsf];have:n.toNat<i.length:=Ck;rw[Brl this];rfl
 rw[e]at b;exact b.2
def Px(b:List Rd.Cls):((Cp b).length:Int)=(Cd.fieldSum b:Int):=by
 have:=Cd.fields_eq (Tr.tree b) b b.length (Bru _);rw[Buv]at this;unfold Cp;rw[this]
def Ww{m:List Rd.Cls}{i:List Rd.Mth}(k:Kn m i){n:Int}(h:0<=n/\n<(Cd.fieldSum m:Int)):(0<=((Cp m).getD n.toNat ⟨0,0,(0,0)⟩).owner/\((Cp m).getD n.toNat ⟨0,0,(0,0)⟩).owner<((Tr.tree m).length:Int))/\Tr.plainB (Tr.tree m) ((Cp m).getD n.toNat ⟨0,0,(0,0)⟩).t.1 ((Cp m).getD n.toNat ⟨0,0,(0,0)⟩).t.2=true:=by
 have b:=Px m;have:=Ad k.fl m.length _ (show (Cp m).getD n.toNat ⟨0,0,(0,0)⟩∈Cp m from Hf Ck);have c:=Ie m;exact⟨Ck,this.2⟩
def Rs{z:TI}{n:Int}(h:0<=n/\n<(z.length:Int)):Tr.plainB z 3 n=true:=by
 unfold Tr.plainB;rw[Pk Ck,Th rfl];exact Kh.2 h
def Ug{m:List Rd.Cls}{i:List Rd.Mth}(k:Kn m i){K:Rd.Mth}{op n:Int}(f:K∈i)(h:Vg (Tr.tree m) (Cd.fieldSum m:Int) i K op n):∀t∈Co (Cp m) i K.result op n,Tr.plainB (Tr.tree m) t.1 t.2=true:=by
 have q:=Ie m;have g:=k.mt K f;unfold Co;intro t b
 split at b
 ·simp at b;rw[b];rfl
 split at b
 ·simp at b;rw[b];rfl
 split at b
 ·simp at b;rw[b];exact Rs ⟨Hd,Fr⟩
 split at b
 ·rename_i j;obtain rfl:=List.mem_singleton.1 b;exact Rs (Ww k (h.fld (.inl j))).1
 split at b
 ·rename_i l;have:=Ww k (h.fld (.inr l));simp only[Bub,Buh,Bv8]at b;rcases b with rfl|rfl
  ·exact Rs this.1
  exact this.2
 split at b
 ·rename_i p;have:=h.mth (.inl p);exact Nn (k.mt _ (Hf (show n.toNat<i.length by omega))).ps t b
 split at b
 ·rename_i c;have s:=h.mth (.inr c);have e:=k.mt _ (Hf (d:=⟨0,0,[],(0,0),0,0,[],[],[]⟩) (show n.toNat<i.length by omega));rcases List.mem_cons.1 b with rfl|b
  ·exact Rs (Kh.1 (e.cl.resolve_left (h.own c)))
  exact Nn e.ps t b
 split at b
 ·exact Bbi g.res t b
 split at b
 ·obtain rfl:=List.mem_singleton.1 b;exact Rs ⟨Hd,Fr⟩
 simp at b
def Bao{m:List Rd.Cls}{i:List Rd.Mth}(k:Kn m i){K:Rd.Mth}{op n:Int}(b:K∈i)(h:Vg (Tr.tree m) (Cd.fieldSum m:Int) i K op n):∀t∈Co (Cp m) i K.result op n,Tr.Arg (Tr.tree m) t.1 t.2:=fun t c=>(Ha (Ug k b h t c)).1
def Bkb{m:List Rd.Cls}{i:List Rd.Mth}(k:Kn m i){K:Rd.Mth}{op n:Int}{c:Int->Prop}(h:Vg (Tr.tree m) (Cd.fieldSum m:Int) i K op n):∀t∈Dp (Cp m) i op n,I9 (Tr.tree m) c t:=by
 unfold Dp;intro t b
 split at b
 ·simp at b;rw[b];exact⟨.inr (.inl ⟨rfl,rfl⟩),fun h=>by simp at h⟩
 split at b
 ·simp at b;rw[b];exact⟨.inr (.inr (.inl ⟨rfl,rfl⟩)),fun h=>by simp at h⟩
 split at b
 ·rename_i e;obtain rfl:=List.mem_singleton.1 b;exact Yr (Ww k (h.fld (.inl e))).2
 split at b
 ·rename_i f;obtain rfl:=List.mem_singleton.1 b;exact⟨Us (h.cls (.inr (.inr f))),fun h=>by simp at h⟩
 split at b
 ·rename_i g;have:=h.mth g;exact Yr (Bbi (k.mt _ (Hf (show n.toNat<i.length by omega))).res t b)
 simp at b
def Vq{z:TI}(h:Cd.unread z<0):Cd.readL z=Cd.insts z:=by
 unfold Cd.readL;rw[Pk Ck]
def Yy{z:TI}{c:Int}(h:Cd.begB z c=true):c.toNat∈Cd.places z:=by
 unfold Cd.begB at h;rw[Bu9]at h;obtain⟨p,b,e⟩:=h;have:(p:Int)=c:=by simpa using e
 rw[<- this,Brx];exact b
def Bkf{c:TI}(b:Cd.unread c<0){q:Int}(h:W9 c q)(n:Int):J4 (Cd.readL c) n q=true<->Cd.atI c (q+1)=n:=by
 rw[Vq b];have s:=Mr h.1;have f:(Cd.findAt q (Cd.insts c)).isSome=true:=by rw[Cd.find_beg];exact h.1
 have i:=(Cd.find_at c q (Cd.places c) f).1;have g:=Nw b _ (Yy h.1);rw[h.2]at g;have j:Cd.wd (c.getD q.toNat 0)=2:=by rw[h.2];rfl
 have l:=Vv (c:=c) (p:=q.toNat) (by rw[h.2];exact g.2) j;unfold J4;rw[f];unfold Cd.insts;rw[i,l.1];have e:(Cd.insAt c q.toNat).op=15:=h.2;have m:((q.toNat:Nat):Int)=q:=Ck;rw[e,m];simp
def Pg{m:List Rd.Cls}{i:List Rd.Mth}(k:Kn m i){K:Rd.Mth}(f:K∈i){u:Nat}(c:u∈Cd.places K.code){x y:Bf}(j:Io (Tr.tree m) K x)(h:Ec m i K u x=some y):Io (Tr.tree m) K y:=by
 have g:=k.mt K f;have b:=Sz g c;unfold Ec at h;rw[Az]at h;refine Bl4 _ _ _ _ _ _ _ _ _ j (Bkb k b) (fun l=>?_) (fun q=>?_) (fun s=>b.cls Ck) h
 ·have:=b.loc (.inl l);have:=g.rd.lo;omega
 have e:Cd.begB K.code (u:Int)=true:=by
  unfold Cd.begB;rw[Bu9];exact⟨u,c,Hd⟩
 have:=Mr e;have:=g.bd.code;exact⟨.inr (.inr (.inr (.inr ⟨rfl,Hd,Fr⟩))),fun _=>⟨e,by simpa using q⟩⟩
def Up{m:List Rd.Cls}{i:List Rd.Mth}(k:Kn m i){K:Rd.Mth}(s:K∈i){u:Nat}(v:u∈Cd.places K.code){x:Bf}(j:Io (Tr.tree m) K x):It m i K (Cd.insAt K.code u) x=Ec m i K u x:=by
 have g:=k.mt K s;have Y:=Ie m;have Z:=Px m;obtain⟨a0,z⟩:=Nw g.unread u v;have A:=Sz g v;have B:(Cd.insAt K.code u).op=K.code.getD u 0:=rfl;have C:(Cd.insAt K.code u).place=(u:Int):=rfl
 -- the number as the program has it
 have D:Ec m i K u x=Es K.stack (D7 (Tr.tree m) (Cp m) i (fun c=>Rf.all (Tr.tree m) (Rf.given++m) c.toNat) (fun q=>Cd.atI K.code (q+1)) K.result (u:Int) (K.code.getD u 0) (Cd.insAt K.code u).n x):=by
  unfold Ec;have G:=Cd.wd_bd (K.code.getD u 0);by_cases b:Cd.wd (K.code.getD u 0)=2;·rw[(Vv z b).1]
  rw[Bou (show Cd.wd (K.code.getD u 0)=1 by omega)]
 have e:Vg (Tr.tree m) (Cd.fieldSum m:Int) i K (K.code.getD u 0) (Cd.insAt K.code u).n:=by
  have G:=Cd.wd_bd (K.code.getD u 0);by_cases b:Cd.wd (K.code.getD u 0)=2;·rw[(Vv z b).1];exact A
  have h':¬(K.code.getD u 0=0\/K.code.getD u 0=2\/K.code.getD u 0=3\/(11<=K.code.getD u 0/\K.code.getD u 0<=21)):=by
   intro I;unfold Cd.wd at b;rw[Th I]at b;exact b rfl
  exact⟨fun h=>Ck,fun h=>Ck,fun h=>Ck,fun h=>Ck,fun h=>Ck⟩
 have J:0<=(Cd.insAt K.code u).n:=by
  unfold Cd.insAt;simp only
  split
  ·exact Vx g.bd.code0 _
  omega
 obtain⟨n,l⟩:∃n:Nat,(Cd.insAt K.code u).n=(n:Int):=⟨(Cd.insAt K.code u).n.toNat,Ck⟩;rw[D];unfold It;rw[B,C,l];rw[l]at e;clear D A B C l J;generalize a1:K.code.getD u 0=op at *;have F:7<=(Rf.given++m).length:=by simp[Ou]
 have L:(Rf.given++m).length-7=m.length:=by simp[Ou]
 have a2:(Rf.given++m).length=7+m.length:=by simp[Ou]
 have hF:Cp m=Rf.fieldsTo (Tr.tree m) (Rf.given++m) ((Rf.given++m).length-7):=by rw[L];rfl
 have N:Hs (Mn m) i K.result op (n:Int)=Co (Cp m) i K.result op (n:Int):=by
  rw[hF];refine Bly _ _ F (Nf m) _ _ _ _ (fun h=>?_);have:=e.fld h;rw[<- hF];omega
 have O:Gm (Mn m) i op (n:Int)=Dp (Cp m) i op (n:Int):=by
  rw[hF];refine Bkc _ _ F (Nf m) _ _ _ (fun h=>?_);have:=e.fld (.inl h);rw[<- hF];omega
 rw[Az,N,O,<- Bk9 k.ok (isNew:=J4 (Cd.readL K.code) (n:Int)) (want:=Rf.all (Tr.tree m) (Rf.given++m) (n:Int).toNat)]
 ·-- only Init wants the fields
  by_cases Q:op=16;·have:=e.cls Ck;rw[show Mn m=(Rf.given++m).map Rd.Cls.fields from rfl,Un k.ok (Rf.given++m) Ck Ck,Brx]
  unfold L3 V5;simp only[Pk Q]
 ·exact fun t f=>(j.ts t f).1
 ·exact Bao k s e
 ·exact fun t f=>(Ha (Ub k.fl _ _ t f)).1
 ·exact Zy _ _ _ _
 ·exact j.hi
 ·intro h;have:=e.loc h;have:=j.lo;have:=g.rd.lo;omega
 intro _ t f V;exact Bkf g.unread ((j.ts t f).2 V) _
def Ba8{z:TI}{mp:Int->Option Bf}{H:Int}{R:Option Bf}{op n c e:Int}(h:J1 z mp H R op n c e=0):∃y,R=some y:=by
 unfold J1 at h;by_cases b:H≠0;·rw[Th b]at h;exact absurd h b
 rw[Pk b]at h;cases R with
 | none=>simp at h
 | some y=>exact⟨y,rfl⟩
def Bo5{z:TI}{c:Int}{i:List Rd.Mth}{K:Rd.Mth}(g:Pa z c i K):∀h∈K.handlers,Tr.Arg z 3 h.cl:=by
 intro h b;have:=g.hnd h b;unfold Cd.hndBad at this;simp only[Bty,Bool.not_eq_false']at this;exact Us (Kh.1 this.1.2)
def Ba9{m:List Rd.Cls}{i:List Rd.Mth}(k:Kn m i){K:Rd.Mth}(b:K∈i){u:Nat}(c:u∈Cd.places K.code){x:Bf}(e:Io (Tr.tree m) K x):Ol m i K (Cd.insAt K.code u) x=Nt m i K u x:=by
 have g:=k.mt K b;obtain⟨C,j⟩:=Nw g.unread u c;have f:∀q z,D9 K q=some z->Hy (Tr.tree m) z:=fun q z h=>Lh (Rp g h);unfold Ol Nt;have l:(Cd.insAt K.code u).op=K.code.getD u 0:=rfl;have s:(Cd.insAt K.code u).place=(u:Int):=rfl;rw[Up k b c e,l,s,Brx,X8 k.ok _ f _ _ (fun t v=>(e.tl t v).1) _ (Bo5 g),
  Bo1 k.ok _ f _ _ (fun y A=>Lh (Pg k b c e A))]
 have D:=Cd.wd_bd (K.code.getD u 0);by_cases B:Cd.wd (K.code.getD u 0)=2;·rw[(Vv j B).1]
 exact Bqn Ck _ _
def Bkx{m:List Rd.Cls}{i:List Rd.Mth}(k:Kn m i){K:Rd.Mth}(b:K∈i):Ld m i K=Hk m i K:=by
 have g:=k.mt K b;unfold Ld Hk Gs;rw[Vq g.unread];refine Bd9 k.ok (D9 K) (Ec m i K) (Nt m i K) K.code (Ol m i K) (It m i K) (Io (Tr.tree m) K) (fun x h=>Lh h) (fun q z h=>Rp g h) (Er K) (Pt g) ?_;intro p c x e;refine⟨Ba9 k b c e,fun j=>?_⟩;obtain⟨y,f⟩:=Ba8 j;exact⟨y,f,by rw[Up k b c e,f],Pg k b c e f⟩
structure Mj(cs:List Rd.Cls)(ms:List Rd.Mth)(f:RFl)(m:RMV)(y:Rf.Mth)(w:World):Prop where
 k:Kn cs ms
 ok:f.ok w
 l:f.l.map Prod.fst=Rf.given++cs
 eq:f.ms.map (fun z=>z.1.m)=ms
 mem:y.m∈ms
 is:m.is y w f.bb
def Mj.below{m:List Rd.Cls}{i:List Rd.Mth}{f:RFl}{b:RMV}{y:Rf.Mth}{w s:TW}(h:Mj m i f b y w)(c:Bl w s):Mj m i f b y s:=⟨h.k,h.ok.below c,h.l,h.eq,h.mem,h.is.below c⟩
def Mj.T{m:List Rd.Cls}{i:List Rd.Mth}{f:RFl}{b:RMV}{y:Rf.Mth}{w:TW}(h:Mj m i f b y w):f.T=Tr.tree m:=(Kk f.l m h.l).1
def Mj.F{m:List Rd.Cls}{i:List Rd.Mth}{f:RFl}{b:RMV}{y:Rf.Mth}{w:TW}(h:Mj m i f b y w):f.fields=Cp m:=by
 obtain⟨c,_,e⟩:=Kk f.l m h.l;unfold RFl.fields Cp;rw[c,h.l,e,show 7+m.length-7=m.length by omega]
def Mj.size{m:List Rd.Cls}{i:List Rd.Mth}{f:RFl}{b:RMV}{y:Rf.Mth}{w:TW}(h:Mj m i f b y w):b.code.size=y.m.code.length:=by rw[<- h.is.code,He]
def Rm{m:List Rd.Cls}{p:List Rd.Mth}{f:RFl}{b:RMV}{y:Rf.Mth}{w:TW}(h:Mj m p f b y w)(q:Int):Calls prog 172 #[b.val,.i q] w fun e l=>∃u:FrV,e=.r (.tuple #[u.val,.bool (D9 y.m q).isSome])/\u.is (Cu (D9 y.m q)) l/\Bl w l:=by
 have g:=h.k.mt y.m h.mem;obtain⟨c,j,s⟩:=h.is.mp;have t:c.length=y.m.maps.length:=by rw[<- j];simp
 have A:=g.bd.mp;have v:∀q∈c,q.1.locals.length<=5000/\q.1.stack.length<=5000:=fun q z=>by
  have:q.1∈y.m.maps:=by rw[<- j];exact List.mem_map.2 ⟨q,z,rfl⟩
  have:=g.bd.fr _ this;omega
 have:=Bgw b c f.bb q w (by rw[h.is.ml];exact t.symm) Ck v s;rw[j]at this;exact this
def Xq{m:List Rd.Cls}{i:List Rd.Mth}{f:RFl}{b:RMV}{y:Rf.Mth}{w:TW}(h:Mj m i f b y w):Calls prog 174 #[b.val] w fun e c=>∃u:FrV,e=.returned u.val/\u.is (Er y.m) c/\Bl w c:=by
 have g:=h.k.mt y.m h.mem;have j:=g.rd.lo;have:=Bgu b y.m.params y.m.locals.toNat w (by rw[h.is.lo];omega) Ck (TyR.of_tys h.is.ps) (by have:=g.bd.ps;omega);rw[h.is.cl]at this;exact this
def Zh{m:List Rd.Cls}{p:List Rd.Mth}{f:RFl}{b:RMV}{y:Rf.Mth}{w:TW}(h:Mj m p f b y w)(q:Nat)(v:FrV)(x:Bf)(D:q∈Cd.places y.m.code)(N:v.is x w)(s:Io (Tr.tree m) y.m x):Calls prog 227 #[f.val,b.val,.i (q:Int),v.val] w fun e G=>∃u:FrV,e=.r (.tuple #[u.val,.bool (Ec m p y.m q x).isSome])/\(∀z,Ec m p y.m q x=some z->u.is z G)/\Bl w G:=by
 have g:=h.k.mt y.m h.mem;have B:=h.is;have O:=h.T;have I:=h.F;have C:=h.eq;have Q:=h.l;have j:=h.is.code;have a1:=h.size;have a2:=g.bd.code;have V:b.code.size<=100000:=Ck;have a3:=Px m;have a4:=Ie m;have eL:=(Kk f.l m h.l).2.2;have a5:f.ms.length=p.length:=by rw[<- C];simp
 have Y:(b.r1,b.r2)=y.m.result:=by rw[B.r1,B.r2]
 have Z:∀z∈f.ms,z.1.m.params.length<=1000:=fun z hz=>by
  have:z.1.m∈p:=by rw[<- C];exact List.mem_map.2 ⟨z,hz,rfl⟩
  have:=(h.k.mt _ this).bd.ps;omega
 have A:=Sz g D;have a6:q<y.m.code.length:=Ty D;have a7:=g.rd.lo;have a8:=g.rd.st;have a0:=fun J (K:Bl w J)=>Bgv f b q v x J (h.ok.below K) Ck V (N.below K) (by rw[s.lo];omega) (by have:=s.hi;omega)
  (fun t ht h4=>by have:=Mr ((s.ts t ht).2 h4).1;omega) Z (by rw[j,Ll,j];intro h;have:=A.fld h;rw[I];omega) (by rw[j,Ll,j];intro h;have:=A.mth h;omega)
  (by rw[j,Ll,j];intro h;have:=A.loc h;have:=s.lo;omega) (by rw[j,Ll,j];intro h;have:=A.cls (.inr (.inl h));omega)
 have L:=Bje f b q v _ w a0;have e:Es b.st (D7 f.T f.fields (f.ms.map fun x=>x.1.m) (fun c=>Rf.all f.T (f.l.map Prod.fst) c.toNat) (fun q=>Rf.at' b.code.data.toList (q+1)) (b.r1,b.r2) (q:Int) ((Ca b.code).getD q 0) (Rf.at' b.code.data.toList ((q:Int)+1)) x)=Ec m p y.m q x:=by
  unfold Ec;simp only[Ll];rw[B.st,O,I,C,Q,Y,j]
 rw[e]at L;exact L
def Bgx{m:List Rd.Cls}{l:List Rd.Mth}{f:RFl}{b:RMV}{y:Rf.Mth}{w:TW}(h:Mj m l f b y w)(q:Nat)(v:FrV)(x:Bf)(s:q∈Cd.places y.m.code)(t:v.is x w)(z:Io (Tr.tree m) y.m x):Calls prog 176 #[f.val,b.val,.i (q:Int),v.val] w fun e A=>e=.r (.i (Nt m l y.m q x))/\Bl w A:=by
 have g:=h.k.mt y.m h.mem;have B:=h.is.code;have C:=h.size;have I:=g.bd.code;have D:b.code.size<=100000:=Ck;have J:q<y.m.code.length:=Ty s;have p:=RFl.fitsAs h.ok;rw[h.T]at p;have K:=g.bd.hs;have F:=fun j (c:Bl w j)=>Bb0 f.v (Tr.tree m) b y.m.handlers f.bb (D9 y.m) (q:Int) v x j (p.below c) h.is.hl Ck (h.is.below c).hs (fun q L G=>Rm (h.below (QB c G)) q) (t.below c);have:=Bji f.v (Tr.tree m) b q (D9 y.m) (Fb (Tr.tree m) (D9 y.m) (q:Int) x.locals y.m.handlers) (Ec m l y.m q x) v w p Ck D F
  (fun j c=>Zh (h.below c) q v x s (t.below c) z)
  (fun q j c=>Rm (h.below c) q)
 rw[Ll,B,C]at this;exact this
def Beu{m:List Rd.Cls}{l:List Rd.Mth}{f:RFl}{b:RMV}{y:Rf.Mth}{w:TW}(h:Mj m l f b y w)(q:Nat)(C:q<=100000):Calls prog 175 #[f.val,b.val,.i (q:Int)] w fun e A=>∃u:FrV,e=.r (.tuple #[u.val,.bool (Gs m l y.m q).isSome])/\(∀z,Gs m l y.m q=some z->u.is z A/\Io (Tr.tree m) y.m z)/\Bl w A:=by
 have g:=h.k.mt y.m h.mem;have s:=h.is.code;have I:=h.size;have J:=g.bd.code;have D:b.code.size<=100000:=Ck;have:=Bg1 f.v b q (fun p=>D9 y.m (p:Int)) (Ec m l y.m) (Er y.m) (Io (Tr.tree m) y.m) w D C (fun B c=>Xq (h.below c)) (fun q B c=>Rm (h.below c) q)
  (fun q v x B c j F t=>by rw[s]at j;exact Zh (h.below c) q v x j F t) (Pt g) (fun q z h=>Rp g h) (fun q x z j t G=>by rw[s]at j;exact Pg h.k h.mem j t G)
 rw[s]at this;exact this
def Bb2{m:List Rd.Cls}{j:List Rd.Mth}{f:RFl}{b:RMV}{y:Rf.Mth}{w:TW}(h:Mj m j f b y w):Calls prog 119 #[f.val,b.val] w fun e l=>e=.r (.tuple #[.i (Hk m j y.m).1,.i (Hk m j y.m).2])/\Bl w l:=by
 have g:=h.k.mt y.m h.mem;have t:=h.is.code;have D:=h.size;have F:=g.bd.code;have A:b.code.size<=100000:=Ck;have z:=RFl.fitsAs h.ok;rw[h.T]at z;have:=Bcy f.v (Tr.tree m) b (fun p=>D9 y.m (p:Int)) (Er y.m) (Io (Tr.tree m) y.m) (Gs m j y.m) (Nt m j y.m) w A z (fun l c=>Xq (h.below c)) (fun q l c=>Rm (h.below c) q)
  (fun q l c s=>Beu (h.below c) q s) (fun q v x l c s B C=>by rw[t]at s;exact Bgx (h.below c) q v x s B C)
 rw[t]at this;exact this
def Gv (s:TB):Int × Int × Int:=J6 (Rf.formed s) (Eu (Hk (Rd.read s).1.classes (Rd.read s).1.methods) 0 (Rd.read s).1.methods)
def Bg3(s:ByteArray)(w:TW)(l:s.size<=maxLen):Calls prog 75 #[.string s] w fun e c=>e=.r (.tuple #[.i (Gv s.data.toList).1,.i (Gv s.data.toList).2.1,.i (Gv s.data.toList).2.2])/\Bl w c:=by
 have h:=Bg2 s (Hk (Rd.read s.data.toList).1.classes (Rd.read s.data.toList).1.methods) w l (fun b f m x c A p g q t v=>by
  obtain⟨k,z,j⟩:=Kb _ b;rw[z]at g;refine Bb2 ⟨k,p,g,?_,?_,v⟩
  ·rw[<- j,<- q,Bvg];rfl
  rw[<- j];exact List.mem_map.2 ⟨x,t,rfl⟩)
 by_cases b:(Rf.formed s.data.toList).1=0;·rw[(Kb _ b).2.2]at h;exact h
 have e:∀V,J6 (Rf.formed s.data.toList) V=Rf.formed s.data.toList:=fun V=>by unfold J6;rw[Th b]
 unfold Gv;rw[e];rw[e]at h;exact h
def Ka (lcs:List (Rd.Cls × Value)):List (Value × List (Int × Int)):=List.replicate 7 (.slice none 0 0,[])++lcs.map fun p=>(p.2,p.1.fields)
def Bku(b:List (Rd.Cls×Value)):(Ka b).map Prod.fst=Tr.fvals b:=by
 unfold Ka Tr.fvals;rw[Bse,List.map_replicate,Bvg];rfl
def Bkt(b:List (Rd.Cls×Value)):(Ka b).map Prod.snd=Mn (b.map Prod.fst):=by
 unfold Ka Mn;rw[Bse,List.map_replicate,Bvg,Bse,Bvg];rfl
def Aa(b:List (Rd.Cls×Value)):(Ka b).length=7+b.length:=by unfold Ka;simp;omega
def Bo7{z:TI}(h:∀x∈z,x<=255)(i:Nat):z.getD i 0<=255:=by
 by_cases b:i<z.length;·exact h _ (Hf b)
 rw[Vm,Bs3 Ck];simp
structure Uc(cs:List Rd.Cls)(ms:List Rd.Mth)(lcs:List (Rd.Cls × Value))(lms:List (Rd.Mth × Ex))(b:PBd)(m:Rd.Mth)(bm:Nat)(w:World):Prop where
 k:Kn cs ms
 ec:lcs.map Prod.fst=cs
 em:lms.map Prod.fst=ms
 mem:m∈ms
 T:b.T=Tr.tree cs
 L:b.L=Cd.readL m.code
 ru:Ru b w 0 lms (Ka lcs)
 is:(⟨b.cl,b.nm,b.pa,b.pl,b.pc,b.r1,b.r2,b.lo,b.st,b.ca,b.cn,b.cc,b.ha,b.hl,b.hc,b.ma,b.ml,b.mc⟩:PM).is m w bm
def Uc.below{m:List Rd.Cls}{i:List Rd.Mth}{Q:List (Rd.Cls×Value)}{c:List (Rd.Mth×Ex)}{b:PBd}{K:Rd.Mth}{u:Nat}{w s:TW}(h:Uc m i Q c b K u w)(e:Bl w s):Uc m i Q c b K u s :=
 ⟨h.k,h.ec,h.em,h.mem,h.T,h.L,h.ru.below e,h.is.below e⟩
def Ui{m:List Rd.Cls}{i:List Rd.Mth}{Q:List (Rd.Cls×Value)}{T:List (Rd.Mth×Ex)}{b:PBd}{K:Rd.Mth}{u:Nat}{w:TW}(h:Uc m i Q T b K u w):Ob b (D9 K) w:=by
 intro q j l;have f:=h.below l;have g:=h.k.mt K h.mem;obtain⟨c,e,p⟩:=f.is.mp;have v:c.length=K.maps.length:=by rw[<- e];simp
 have z:=g.bd.mp;have s:∀q∈c,q.1.locals.length<=5000/\q.1.stack.length<=5000:=fun q t=>by
  have:q.1∈K.maps:=by rw[<- e];exact List.mem_map.2 ⟨q,t,rfl⟩
  have:=g.bd.fr _ this;omega
 have:=Bg7 b c u q j (by have:=f.is.ml;simp only at this;omega) Ck s p;rw[e]at this;exact this
def Bev{m:List Rd.Cls}{l:List Rd.Mth}{Q:List (Rd.Cls×Value)}{T:List (Rd.Mth×Ex)}{b:PBd}{K:Rd.Mth}{u:Nat}{w:TW}(h:Uc m l Q T b K u w):Calls prog 110 #[.agg #[.i b.cl,.i b.nm,.s b.pa b.pl b.pc,.i b.r1,.i b.r2,.i b.lo,.i b.st,.s b.ca b.cn b.cc,.s b.ha b.hl b.hc,.s b.ma b.ml b.mc]] w fun e j=>∃c:FrV,e=.returned c.val/\c.is (Er K) j/\Bl w j:=by
 have g:=h.k.mt K h.mem;have q:=g.rd.lo;have p:=h.is.lo;have f:=h.is.cl;simp only at p f;have:=Bg6 ⟨b.cl,b.nm,b.pa,b.pl,b.pc,b.r1,b.r2,b.lo,b.st,b.ca,b.cn,b.cc,b.ha,b.hl,b.hc,b.ma,b.ml,b.mc⟩ K.params K.locals.toNat w Mc Ck (TyR.of_tys h.is.ps) (by have:=g.bd.ps;omega);simp only[PM.val,f]at this;unfold Er;rw[f];exact this
def Bc4{m:List Rd.Cls}{f:List Rd.Mth}{Q:List (Rd.Cls×Value)}{j:List (Rd.Mth×Ex)}{b:PBd}{K:Rd.Mth}{u:Nat}{w:TW}(h:Uc m f Q j b K u w)(p:Nat)(v:FrV)(x:Bf)(l:p∈Cd.places K.code)(C:v.is x w)(s:Io (Tr.tree m) K x):Calls prog 221 #[b.val,.agg #[.i (p:Int),.i (Cd.insAt K.code p).op,.i (Cd.insAt K.code p).n],v.val] w fun e t=>∃c:FrV,e=.r (.tuple #[c.val,.bool (It m f K (Cd.insAt K.code p) x).isSome])/\(∀y,It m f K (Cd.insAt K.code p) x=some y->c.is y t)/\Bl w t:=by
 have g:=h.k.mt K h.mem;obtain⟨Z,D⟩:=Nw g.unread p l;have F:=Sz g l;have a0:=g.rd.lo;have a1:=g.rd.st;have a2:0<=(Cd.insAt K.code p).n:=by
  unfold Cd.insAt;simp only
  split
  ·exact Vx g.bd.code0 _
  omega
 have G:(Cd.insAt K.code p).op=20\/(Cd.insAt K.code p).op=21->(Cd.insAt K.code p).n.toNat<j.length:=by
  intro I;have J:K.code.getD p 0=20\/K.code.getD p 0=21:=I;have N:Cd.wd (K.code.getD p 0)=2:=by unfold Cd.wd;rw[Th Ck]
  have:=F.mth J;rw[(Vv D N).1];have:f.length=j.length:=by rw[<- h.em];simp
  omega
 have O:(Cd.insAt K.code p).n.toNat<=100000:=by
  have:(Cd.insAt K.code p).n<=255:=by
   unfold Cd.insAt;simp only
   split
   ·exact Bo7 g.rd.c255 _
   omega
  omega
 have V:∀q∈j,q.1.params.length<=1000:=fun q Y=>by
  have:q.1∈f:=by rw[<- h.em];exact List.mem_map.2 ⟨q,Y,rfl⟩
  have:=(h.k.mt _ this).bd.ps;omega
 have:=Bey b 0 j (Ka Q) (p:Int) (Cd.insAt K.code p).op (Cd.insAt K.code p).n.toNat v x w h.ru C O (by rw[s.lo];omega) (by have:=s.hi;omega) V G;have z:=h.is.st;have A:=h.is.r1;have B:=h.is.r2;simp only at z A B;rw[show (((Cd.insAt K.code p).n.toNat:Nat):Int)=(Cd.insAt K.code p).n by omega,Bkt,h.em,h.ec,h.T,h.L,z,show (b.r1,b.r2)=K.result by rw[A,B]]at this;exact this
def Bg8{m:List Rd.Cls}{f:List Rd.Mth}{Q:List (Rd.Cls×Value)}{G:List (Rd.Mth×Ex)}{b:PBd}{K:Rd.Mth}{u:Nat}{w:TW}(h:Uc m f Q G b K u w)(p:Nat)(v:FrV)(x:Bf)(l:p∈Cd.places K.code)(t:v.is x w)(q:Io (Tr.tree m) K x):Calls prog 186 #[b.pval,.agg #[.i (p:Int),.i (Cd.insAt K.code p).op,.i (Cd.insAt K.code p).n],v.val] w fun e z=>∃c:FrV,e=.r (.tuple #[c.val,.i (Ol m f K (Cd.insAt K.code p) x)])/\(Ol m f K (Cd.insAt K.code p) x=0->∃y,It m f K (Cd.insAt K.code p) x=some y/\c.is y z/\Io (Tr.tree m) K y)/\Bl w z:=by
 have g:=h.k.mt K h.mem;have O:p<K.code.length:=Ty l;have V:=g.bd.code;have Y:=g.bd.hs;have A:=h.is.cn;have B:=h.is.hl;simp only at A B;have I:=fun s (j:Bl w s)=>Bg9 b (D9 K) K.handlers u (p:Int) v x s h.ru.tl (h.ru.below j).tr (Ui (h.below j)) B Ck (h.is.below j).hs (t.below j);have:=Bjn b (D9 K) p (Cd.insAt K.code p).op (Cd.insAt K.code p).n (Gj b.T (D9 K) (p:Int) x.locals K.handlers) (It m f K (Cd.insAt K.code p) x) v w h.ru.tl h.ru.tr (Ui h) Ck I (fun s j=>Bc4 (h.below j) p v x l (t.below j) q);rw[h.T,A]at this;refine this.mono ?_;rintro e s ⟨c,rfl,J,L⟩;refine⟨c,rfl,fun C=>?_,L⟩;have N:=Ba9 h.k h.mem l q;obtain⟨y,D⟩:=Ba8 (show Nt m f K p x=0 by rw[<- N];exact C);have F:It m f K (Cd.insAt K.code p) x=some y:=by rw[Up h.k h.mem l q];exact D
 exact⟨y,F,J C y F,Pg h.k h.mem l q D⟩
def Bhb{m:List Rd.Cls}{i:List Rd.Mth}{Q:List (Rd.Cls×Value)}{s:List (Rd.Mth×Ex)}{b:PBd}{K:Rd.Mth}{u:Nat}{w:TW}(h:Uc m i Q s b K u w):Calls prog 129 #[b.pval] w fun e f=>e=.r (.agg #[.i (Ld m i K).1,.i 0,.i (Ld m i K).2])/\Bl w f:=by
 have g:=h.k.mt K h.mem;have:=Bjr b (D9 K) (Ol m i K) (It m i K) (Er K) (Io (Tr.tree m) K) 0 w h.ru.tl h.ru.tr (Ui h) h.ru.ll h.ru.ins (fun f j=>Bev (h.below j))
  (fun c l v x f j t A=>by
   rw[h.L,Vq g.unread]at l;obtain⟨p,B,rfl⟩:=List.mem_map.1 l;exact Bg8 (h.below j) p v x B t A) (Pt g) (fun q z C=>Rp g C)
 rw[h.T,h.L]at this;exact this
def Bhc{m:List Rd.Cls}{l:List Rd.Mth}(k:Kn m l){g D:TA}{u b t O F:Nat}{Q:List (Rd.Cls×Value)}{T:List (Rd.Mth×Ex)}{w:TW}(A:Q.map Prod.fst=m)(K:Fh w F (.s g u b) Q)(B:T.map Prod.fst=l)(G:Eb w F (.s D t O) T):Calls prog 80 #[.agg #[.s g u b,.s D t O]] w fun e N=>e=.r (.agg #[.i (Ff (Ld m l) 0 l).1,.i (Ff (Ld m l) 0 l).2.1,.i (Ff (Ld m l) 0 l).2.2])/\Bl w N:=by
 obtain⟨xa,xc,z⟩:=Bh G.1;simp only[Value.slice.injEq]at z;obtain⟨rfl,rfl,rfl⟩:=z;have a7:Q.length=m.length:=by rw[<- A];simp
 have a8:T.length=l.length:=by rw[<- B];simp
 have a9:=k.l6;have b0:=k.m6;have b1:=Ie m;have C:∀p∈T,p.1∈l:=fun p v=>by rw[<- B];exact List.mem_map.2 ⟨p,v,rfl⟩
 have:=Bjs g D u b O F Q T (Ld m l) w Ck K Ck G (fun p v=>⟨by have:=(k.mt _ (C p v)).bd.code;omega,(k.mt _ (C p v)).bd.code0⟩)
  (fun p v f bb N V e1 e2 e3 e4 Y e6 I Z a3 a0 a4 a5=>by
   have h:=k.mt _ (C p v);rw[A]at I;obtain⟨ya,yc,z⟩:=Bh a0;simp only[Value.slice.injEq]at z;have a6:f.yn=(Ka Q).length:=by rw[Aa];exact z.2.1
   have b2:f.L.length<=120:=by
    rw[Z,Vq h.unread];have:=Bbd p.1.code;have:=h.bd.code;omega
   refine Bhb ⟨k,A,B,C p v,I,Z,⟨Y,Ck,?_,a6,by rw[Aa];omega,?_,⟨?_,?_⟩,by rw[I];omega,a3,Ck,D6 a5 (Bsb _)⟩,a4⟩
   ·rw[e4,Y,e6];exact(G.kp (Kp.of_below (e:=none) V) Fm Fm Fm Fm Fm).mono (Bsb _)
   ·intro q j;unfold Ka at j;rcases List.mem_append.1 j with j|j
    ·rw[(List.mem_replicate.1 j).2];simp
    obtain⟨c,J,rfl⟩:=List.mem_map.1 j;exact k.fn c.1 (by rw[<- A];exact List.mem_map.2 ⟨c,J,rfl⟩)
   ·rw[Bku,Aa];exact D6 a0 (Bsb _)
   intro q j;unfold Ka at j;rcases List.mem_append.1 j with j|j
   ·rw[(List.mem_replicate.1 j).2];exact TyR.nil _
   obtain⟨c,J,rfl⟩:=List.mem_map.1 j;exact TyR.of_tys ((K.kp (Kp.of_below (e:=none) V) Fm Fm).2 c J))
 rw[B]at this;exact this
def Wz(f:Rd.Mth->Int×Int):∀(l:List Rd.Mth) (k:Nat),(Eu f k l).1=0->Eu f k l=(0,0,0)
 | [],_,_=>rfl
 | m::r,k,h=>by
  rw[Eu]at h ⊢;by_cases b:(f m).1≠0;·rw[Th b]at h;exact absurd h b
  rw[Pk b]at h ⊢;exact Wz f r _ h
def Bh2(s:TB):Om (Gx s) (Ff (Ld (Rd.read s).1.classes (Rd.read s).1.methods) 0 (Rd.read s).1.methods)=J6 (Rf.formed s) (Eu (Hk (Rd.read s).1.classes (Rd.read s).1.methods) 0 (Rd.read s).1.methods):=by
 rw[Rn];unfold Om J6;by_cases b:(Rf.formed s).1≠0;·rw[Th b,Th b]
 rw[Pk b,Pk b];obtain⟨k,_,_⟩:=Kb s (by simpa using b);rw[Ab _ (Hk (Rd.read s).1.classes (Rd.read s).1.methods) _ _ (fun m c=>Bkx k c)]
 split
 ·rfl
 rename_i e;exact(Wz _ _ _ (by simpa using e)).symm
structure Bij where
 fr:Bf
 st:Bool
 ri:Bool
 wa:Bool
def Bqz:Bij:=⟨⟨[],[]⟩,false,false,false⟩
structure Bik where
 sp:List Bij
 hop:Bool
def Bik.at(s:Bik)(q:Nat):Bij:=s.sp.getD q Bqz
abbrev V8(T:List Int)(s t:Int × Int):Prop:=Tr.fitsB T s.1 s.2 t.1 t.2=true
def Do (T:TI):TP->TP->Prop
 | [],[]=>True
 | s::a,t::b=>V8 T s t/\Do T a b
 | _,_=>False
def Do.nil{z:TI}:Do z [] []:=trivial
def Do.cons{z:TI}{C t:Int×Int}{a p:TP}(h:V8 z C t)(k:Do z a p):Do z (C::a) (t::p):=⟨h,k⟩
def Do.el{T:TI}{P:(a b:TP)->Do T a b->Prop}(nil:P [] [] .nil)(cons:∀{s t:Int×Int}{a b:TP} (h:V8 T s t) (k:Do T a b),P a b k->P (s::a) (t::b) (.cons h k)):∀{a b:TP} (h:Do T a b),P a b h
 | [],[],_=>nil
 | [],_::_,h=>False.elim h
 | _::_,[],h=>False.elim h
 | _::_,_::_,h=>cons h.1 h.2 (Do.el nil cons h.2)
structure Lu(T:List Int)(x y:Bf):Prop where
 lo:Do T x.locals y.locals
 st:Do T x.stack y.stack
def Do.len{z:TI}{a p:TP}(h:Do z a p):a.length=p.length:=by
 induction h using Do.el with
 | nil=>rfl
 | cons _ _ ih=>simp[ih]
def Do.refl(T:TI)(a:TP):Do T a a:=by
 induction a with
 | nil=>exact .nil
 | cons x r ih=>exact .cons (Tr.fits_refl _ _ _) ih
def Do.getD{z:TI}{a p:TP}(h:Do z a p)(i:Nat):V8 z (a.getD i (0,0)) (p.getD i (0,0)):=by
 induction h using Do.el generalizing i with
 | nil=>exact Tr.fits_refl _ _ _
 | cons h1 _ ih =>
  cases i with
  | zero=>simpa using h1
  | succ i=>simpa using ih i
def Do.set{z:TI}{a b:TP}(h:Do z a b)(i:Nat){C t:Int×Int}(c:V8 z C t):Do z (a.set i C) (b.set i t):=by
 induction h using Do.el generalizing i with
 | nil=>exact .nil
 | cons h1 h2 ih =>
  cases i with
  | zero=>exact .cons c h2
  | succ i=>exact .cons h1 (ih i)
def Do.take{z:TI}{a p:TP}(h:Do z a p)(i:Nat):Do z (a.take i) (p.take i):=by
 induction h using Do.el generalizing i with
 | nil=>simpa using Do.nil
 | cons h1 h2 ih =>
  cases i with
  | zero=>exact .nil
  | succ i=>exact .cons h1 (ih i)
def Do.drop{z:TI}{a p:TP}(h:Do z a p)(i:Nat):Do z (a.drop i) (p.drop i):=by
 induction h using Do.el generalizing i with
 | nil=>simpa using Do.nil
 | cons h1 h2 ih =>
  cases i with
  | zero=>exact .cons h1 h2
  | succ i=>exact ih i
def Do.append{z:TI}{a p c d:TP}(h:Do z a p)(g:Do z c d):Do z (a++c) (p++d):=by
 induction h using Do.el with
 | nil=>exact g
 | cons h1 _ ih=>exact .cons h1 ih
def Bd6{z:TI}{C:Int×Int}{c:Int}(h:V8 z C (4,c)):C=(4,c):=by
 rcases(Tr.fits_iff ..).1 h with ⟨a,b⟩ | e|⟨e,_⟩|⟨e,_⟩
 ·exact Btq a b
 ·exact absurd e Hd
 ·exact absurd e Hd
 exact absurd e Hd
def Bmc{z:TI}{C:Int×Int}{c:Int}(h:V8 z (4,c) C):C=(4,c)\/C.1=0:=by
 rcases(Tr.fits_iff ..).1 h with ⟨a,b⟩ | e|⟨_,e⟩|⟨_,e,_⟩
 ·exact .inl (Btq a.symm b.symm)
 ·exact .inr e
 ·exact absurd e Hd
 exact absurd e Hd
def Do.turned{z:TI}{a p:TP}(h:Do z a p)(c:Int)(u:Int×Int):Do z (Ci (4,c) u a) (Ci (4,c) u p):=by
 induction h using Do.el with
 | nil=>exact .nil
 | @cons s t a p h1 _ ih =>
  refine Do.cons ?_ ih;show V8 z (if s=(4,c) then u else s) (if t=(4,c) then u else t)
  by_cases e:s=(4,c)
  ·subst e;rw[Th rfl];rcases Bmc h1 with rfl|f
   ·rw[Th rfl];exact Tr.fits_refl _ _ _
   rw[Pk (by rintro rfl;simp at f)];exact(Tr.fits_iff ..).2 (.inr (.inl f))
  rw[Pk e];by_cases g:t=(4,c);·subst g;exact absurd (Bd6 h1) e
  rw[Pk g];exact h1
def Bkv{z:TI}(l:Tr.Ok z){a p:TP}(h:Do z a p)(g:∀t∈a,Tr.Arg z t.1 t.2)(i:∀t∈p,Tr.Arg z t.1 t.2):∀{c:TP},(∀t∈c,Tr.Arg z t.1 t.2)->Ee z p c=true->Ee z a c=true:=by
 induction h using Do.el with
 | nil=>exact fun _ h=>h
 | cons h1 _ ih =>
  intro c j f;cases c with
  | nil=>simp[Ee]
  | cons u c =>
   simp only[Ee,Bsq]at f ⊢;exact⟨Tr.fits_trans l (g _ Hd) (i _ Hd) (j _ Hd) h1 f.1,ih (fun t e=>g t (by simp[e])) (fun t e=>i t (by simp[e])) (fun t e=>j t (by simp[e])) f.2⟩
def Bi1{z:TI}(g:Tr.Ok z){a p c:TP}(h:Do z a p)(j:∀t∈a,Tr.Arg z t.1 t.2)(l:∀t∈p,Tr.Arg z t.1 t.2)(i:∀t∈c,Tr.Arg z t.1 t.2)(f:Ey z p c=true):Ey z a c=true:=by
 unfold Ey at f ⊢;rw[h.len];by_cases m:p.length<c.length;·rw[Th m]at f;cases f
 rw[Pk m]at f ⊢;rw[Ni g _ _ (fun t e=>l t (Btk e)) i]at f;rw[Ni g _ _ (fun t e=>j t (Btk e)) i];exact Bkv g (h.drop _) (fun t e=>j t (Btk e)) (fun t e=>l t (Btk e)) i f
def Bhe{z:TI}(v:Tr.Ok z){q lv want:TP}{arg:Int->Int}{c op n:Int}{x y b:Bf}(A:Hy z x)(B:Hy z y)(O:∀t∈q,Tr.Arg z t.1 t.2)(Q:∀t∈want,Tr.Arg z t.1 t.2)(h:Lu z x y) (f:K9 z q lv want arg c op n y=some b):∃u,K9 z q lv want arg c op n x=some u/\Lu z u b:=by
 have el:=h.lo.len;have j:=h.st.len;unfold K9 at f ⊢;by_cases C:op=2
 ·rw[Th C]at f ⊢;have l:=h.lo.getD n.toNat;by_cases D:(y.locals.getD n.toNat (0,0)).1=0;·rw[Th D]at f;cases f
  rw[Pk D]at f;have V:(x.locals.getD n.toNat (0,0)).1≠0:=by
   intro e;rcases(Tr.fits_iff ..).1 l with ⟨a,_⟩ | a|⟨_,a⟩|⟨_,a,_⟩<;>omega
  rw[Pk V];cases f;exact⟨_,rfl,h.lo,h.st.append (.cons l .nil)⟩
 rw[Pk C]at f ⊢;by_cases F:op=3
 ·rw[Th F,j]at *;by_cases g:y.stack.length<1;·rw[Th g]at f;cases f
  rw[Pk g]at f ⊢;cases f;exact⟨_,rfl,h.lo.set _ (h.st.getD _),h.st.take _⟩
 rw[Pk F]at f ⊢;by_cases G:op=4
 ·rw[Th G,j]at *;by_cases g:y.stack.length<1;·rw[Th g]at f;cases f
  rw[Pk g]at f ⊢;cases f;exact⟨_,rfl,h.lo,h.st.take _⟩
 rw[Pk G]at f ⊢;by_cases I:op=5
 ·rw[Th I,j]at *;by_cases g:y.stack.length<1;·rw[Th g]at f;cases f
  rw[Pk g]at f ⊢;cases f;exact⟨_,rfl,h.lo,h.st.append (h.st.drop _)⟩
 rw[Pk I]at f ⊢;by_cases J:op=6
 ·rw[Th J,j]at *;by_cases g:y.stack.length<2;·rw[Th g]at f;cases f
  rw[Pk g]at f ⊢;cases f;exact⟨_,rfl,h.lo,(h.st.take _).append (.cons (h.st.getD _) (.cons (h.st.getD _) .nil))⟩
 rw[Pk J]at f ⊢;by_cases K:op=15;·rw[Th K]at f ⊢;cases f;exact⟨_,rfl,h.lo.turned _ _,(h.st.turned _ _).append (.cons (Tr.fits_refl _ _ _) .nil)⟩
 rw[Pk K]at f ⊢;by_cases L:op=16
 ·rw[Th L]at f ⊢;unfold Ns at f ⊢;rw[j]at *;by_cases i:Ey z y.stack want=false;·rw[Th i]at f;cases f
  have s:=Bi1 v h.st A.2 B.2 Q (by simpa using i);rw[Pk i]at f;rw[Pk (by simp[s])];by_cases g:y.stack.length<want.length+1;·rw[Th g]at f;cases f
  rw[Pk g]at f ⊢;have l:=h.st.getD (y.stack.length-want.length-1);have Y:=h.st.take (y.stack.length-want.length-1);generalize y.stack.getD (y.stack.length-want.length-1) (0,0)=r at *;generalize x.stack.getD (y.stack.length-want.length-1) (0,0)=r' at *;by_cases m:r.1≠4;·rw[Th m]at f;cases f
  rw[Pk m]at f;obtain⟨Z,r2⟩:=r;have:Z=4:=by simpa using m
  subst this;have e:=Bd6 l;subst e;rw[Pk m];by_cases N:arg r2≠n;·rw[Th N]at f;cases f
  rw[Pk N]at f ⊢;cases f;exact⟨_,rfl,h.lo.turned _ _,Y.turned _ _⟩
 rw[Pk L]at f ⊢;by_cases i:Ey z y.stack q=false;·rw[Th i]at f;cases f
 have s:=Bi1 v h.st A.2 B.2 O (by simpa using i);rw[Pk i,j]at *;rw[Pk (by simp[s])];cases f;exact⟨_,rfl,h.lo,(h.st.take _).append (.refl _ _)⟩
structure Jv where
 T:List Int
 lo:Nat
 hi:Int
 isN:Int->Prop
 n:Nat
 ps:List Nat
 hs:List Rd.Hnd
 rl:Nat->Bf->Option Bf
 op:Nat->Int
 ar:Nat->Int
 x0:Bf
abbrev Jv.I(E:Jv)(x:Bf):Prop:=As E.T E.lo E.hi E.isN x
def Jv.nx(E:Jv)(p:Nat):Int:=(p:Int)+(Cd.wd (E.op p):Int)
structure Jv.Good(E:Jv):Prop where
 T:Tr.Ok E.T
 x0:E.I E.x0
 rl:∀p∈E.ps,∀x y,E.I x->E.rl p x=some y->E.I y
 mono:∀p∈E.ps,∀x y z,E.I x->E.I y->Lu E.T x y->E.rl p y=some z->∃u,E.rl p x=some u/\Lu E.T u z
 tgt:∀p∈E.ps,Ei (E.op p)=true->0<=E.ar p/\E.ar p<(E.n:Int)/\(E.ar p).toNat∈E.ps
 nxt:∀p∈E.ps,E.nx p<(E.n:Int)->(E.nx p).toNat∈E.ps
 hnd:∀h∈E.hs,0<=h.target/\h.target<(E.n:Int)/\h.target.toNat∈E.ps/\Tr.Arg E.T 3 h.cl
 zero:0∈E.ps
 lt:∀p∈E.ps,p<E.n
def Sa (x:Bf)(h:Rd.Hnd):Bf:=⟨x.locals,[(3,h.cl)]⟩
def I8 (E:Jv)(p:Nat)(x:Bf)(q:Int)(y:Bf)(a:Bool):Prop :=
 (∃h,h∈E.hs/\Fo h (p:Int)=true/\q=h.target/\y=Sa x h/\a=true)\/(E.rl p x=some y/\Ei (E.op p)=true/\q=E.ar p/\a=true)\/(E.rl p x=some y/\Dl (E.op p)=true/\q=E.nx p/\a=false)
def I8.hnd{E:Jv}{u:Nat}{x:Bf}(h:Rd.Hnd)(k:h∈E.hs)(c:Fo h (u:Int)=true):I8 E u x h.target (Sa x h) true:=Or.inl ⟨h,k,c,rfl,rfl,rfl⟩
def I8.jmp{E:Jv}{u:Nat}{x:Bf}(y:Bf)(k:E.rl u x=some y)(c:Ei (E.op u)=true):I8 E u x (E.ar u) y true:=Or.inr (Or.inl ⟨k,c,rfl,rfl⟩)
def I8.nxt{E:Jv}{u:Nat}{x:Bf}(y:Bf)(k:E.rl u x=some y)(c:Dl (E.op u)=true):I8 E u x (E.nx u) y false:=Or.inr (Or.inr ⟨k,c,rfl,rfl⟩)
def I8.el{E:Jv}{p:Nat}{x:Bf}{P:(q:Int)->(y:Bf)->(a:Bool)->I8 E p x q y a->Prop}(hnd:∀(h:Rd.Hnd) (k:h∈E.hs) (c:Fo h (p:Int)=true),P _ _ _ (.hnd h k c))(jmp:∀(y:Bf) (k:E.rl p x=some y) (c:Ei (E.op p)=true),P _ _ _ (.jmp y k c))(nxt:∀(y:Bf) (k:E.rl p x=some y) (c:Dl (E.op p)=true),P _ _ _ (.nxt y k c)){q:Int}{y:Bf}{a:Bool}(h:I8 E p x q y a):P q y a h:=by
 rcases h with ⟨h,k,c,rfl,rfl,rfl⟩|⟨k,c,rfl,rfl⟩|⟨k,c,rfl,rfl⟩
 ·exact hnd h k c
 ·exact jmp y k c
 exact nxt y k c
structure Bq0(E:Jv)(F:Nat->Option Bf)(W:Nat->Prop)(p:Nat)(x:Bf):Prop where
 rl:∃y,E.rl p x=some y
 go:∀q y a,I8 E p x q y a->0<=q/\q<(E.n:Int)/\(y.stack.length:Int)<=E.hi/\(∃z,F q.toNat=some z/\Lu E.T y z)/\(a=true->W q.toNat)
structure Blh(E:Jv)(F:Nat->Option Bf):Prop where
 inv:∀p x,F p=some x->E.I x
 x0:∃y,F 0=some y/\Lu E.T E.x0 y
 sat:∀p∈E.ps,∀x,F p=some x->Bq0 E F (fun _=>True) p x
def Bq1 (E:Jv)(p q:Nat):Prop:=(∃h∈E.hs,Fo h (p:Int)=true/\h.target.toNat=q)\/(Ei (E.op p)=true/\(E.ar p).toNat=q)
def Lu.refl(T:TI)(x:Bf):Lu T x x:=⟨.refl _ _,.refl _ _⟩
def Pj{T:TI}:∀{a b:TP},a.length=b.length->(Ee T a b=true<->Do T a b)
 | [],[],_=>⟨fun _=>.nil,fun _=>rfl⟩
 | [],_::_,h=>by simp at h
 | _::_,[],h=>by simp at h
 | s::a,t::b,h=>by
  have c:=Pj (T:=T) (a:=a) (b:=b) (by simpa using h);simp only[Ee,Bsq]
  constructor
  ·rintro ⟨e,f⟩;exact .cons e (c.1 f)
  intro k;cases k using Do.el with
  | cons k1 k2=>exact⟨k1,c.2 k2⟩
def Bd7{z:TI}{x y:Bf}:Km z x y=true<->Lu z x y:=by
 unfold Km L4
 constructor
 ·intro h;simp only[Bsq]at h;obtain⟨b,c⟩:=h
  split at b
  ·next e1 =>
   split at c
   ·next e2=>exact⟨(Pj e1).1 b,(Pj e2).1 c⟩
   cases c
  cases b
 intro h;rw[Th h.lo.len,Th h.st.len,(Pj h.lo.len).2 h.lo,(Pj h.st.len).2 h.st];rfl
def at_out{s:Bik}{u:Nat}(h:s.sp.length<=u):s.at u=Bqz:=by unfold Bik.at;rw[Vm,Bs3 h];rfl
def Ji (cs:List Rd.Cls)(ms:List Rd.Mth)(m:Rd.Mth):Jv :=
 ⟨Tr.tree cs,m.locals.toNat,m.stack,W9 m.code,m.code.length,Cd.places m.code,m.handlers,Ec cs ms m,fun p=>m.code.getD p 0,fun p=>Cd.atI m.code ((p:Int)+1),Er m⟩
def Xo(c:TI):∀(k e:Nat),c.length<=e+k->∀q∈Cd.starts c k e,q+Cd.wd (c.getD q 0)<c.length->q+Cd.wd (c.getD q 0)∈Cd.starts c k e
 | 0,e,_,q,b,_=>by simp[Cd.starts]at b
 | k+1,e,hk,q,b,hl=>by
  unfold Cd.starts at b ⊢;by_cases f:e<c.length
  ·rw[Th f]at b ⊢;have g:=Cd.wd_bd (c.getD e 0);rcases List.mem_cons.1 b with rfl|b
   ·refine Bsh _ ?_;obtain⟨j,rfl⟩:∃j,k=j+1:=⟨k-1,Ck⟩;unfold Cd.starts;rw[Th hl];exact Bsd ..
   exact Bsh _ (Xo c k _ Ck q b hl)
  rw[Pk f]at b;simp at b
def Xs{z:TI}{u:Nat}(b:u∈Cd.places z)(e:u+Cd.wd (z.getD u 0)<z.length):u+Cd.wd (z.getD u 0)∈Cd.places z:=Xo z z.length 0 Ck u b e
def T7{z:TI}{u:Nat}(b:u∈Cd.places z):u<z.length:=by
 have e:Cd.begB z (u:Int)=true:=by unfold Cd.begB;rw[Bu9];exact⟨u,b,Hd⟩
 have:=Mr e;omega
def Uj{z:TI}(h:0<z.length):0∈Cd.places z:=by
 unfold Cd.places;obtain⟨j,b⟩:∃j,z.length=j+1:=⟨z.length-1,Ck⟩;rw[b];unfold Cd.starts;rw[Th h];exact Bsd ..
def Bjc{m:List Rd.Cls}{i:List Rd.Mth}(k:Kn m i){K:Rd.Mth}(j:K∈i){u:Nat}(q:u∈Cd.places K.code){x y z:Bf}(s:Io (Tr.tree m) K x)(v:Io (Tr.tree m) K y)(h:Lu (Tr.tree m) x y)(c:Ec m i K u y=some z):∃b,Ec m i K u x=some b/\Lu (Tr.tree m) b z:=by
 have g:=k.mt K j;have A:=Sz g q;unfold Ec at c ⊢;rw[Az]at c ⊢;unfold Es at c ⊢;obtain⟨B,C,e⟩:=Option.bind_eq_some_iff.1 c;obtain⟨b,D,l⟩:=Bhe (want:=Rf.all (Tr.tree m) (Rf.given++m) (Cd.atI K.code ((u:Int)+1)).toNat) k.ok (Lh s) (Lh v) (Bao k j A) (fun t F=>(Ha (Ub k.fl _ _ t F)).1) h C;by_cases f:(B.stack.length:Int)<=K.stack
 ·rw[Th f]at e;cases e;refine⟨b,?_,l⟩;rw[D];show (if (b.stack.length:Int)<=K.stack then some b else none)=some b
  rw[Th (by rw[l.st.len];exact f)]
 rw[Pk f]at e;cases e
def Bdx{z:TI}{c:TI}{h:Rd.Hnd}(b:Cd.hndBad z c h=false):Cd.begB c h.target=true/\Tr.hasB z h.cl=true:=by
 unfold Cd.hndBad at b;simp only[Bty,Bool.not_eq_eq_eq_not,Bool.not_false]at b;exact⟨b.1.1.1.2,b.1.2⟩
def Bec{m:List Rd.Cls}{i:List Rd.Mth}(k:Kn m i){K:Rd.Mth}(e:K∈i)(s:0<K.code.length):(Ji m i K).Good:=by
 have g:=k.mt K e;refine⟨k.ok,Pt g,fun p b x y f h=>Pg k e b f h,fun p b x y z f t h v=>Bjc k e b f t h v,fun p b A=>?_,fun p b B=>?_,fun h C=>?_,Uj s,fun p b=>T7 b⟩
 ·have c:=g.arg p b;unfold Cd.argAt at c;rw[Xd]at c;show 0<=Cd.atI K.code ((p:Int)+1)/\Cd.atI K.code ((p:Int)+1)<(K.code.length:Int)/\(Cd.atI K.code ((p:Int)+1)).toNat∈Cd.places K.code;have q:Ei (K.code.getD p 0)=true:=A;generalize K.code.getD p 0=op at *;unfold Ei at q;have F:op=11\/op=12\/op=13\/op=14:=by simpa using q
  unfold Cd.argB at c;rw[Pk Ck,Th Ck]at c;have j:=Mr c;have l:=Yy c;exact⟨Ck,Ck,l⟩
 ·have G:(p:Int)+(Cd.wd (K.code.getD p 0):Int)<(K.code.length:Int):=B;have:=Xs b Ck;show ((p:Int)+(Cd.wd (K.code.getD p 0):Int)).toNat∈Cd.places K.code;rw[show ((p:Int)+(Cd.wd (K.code.getD p 0):Int)).toNat=p+Cd.wd (K.code.getD p 0) by omega];exact this
 obtain⟨j,l⟩:=Bdx (g.hnd h C);have I:=Mr j;have D:=Yy j;exact⟨Ck,(by show h.target<(K.code.length:Int);omega),D,Us (Kh.1 l)⟩
def Rd.Mon{α:Type}(f:Rd.St->α × Rd.St):Prop:=∀t,t.bad=true->(f t).2.bad=true
def Mk(s:TB):Rd.Mon (Rd.nx s):=fun t h=>by unfold Rd.nx;rw[Th h]
def Tb(s:TB)(a b:Int):Rd.Mon (Rd.cn s a b):=fun t h=>by
 unfold Rd.cn
 split
 ·rfl
 split
 ·rfl
 exact Mk s t h
def Bj0(s:TB):Rd.Mon (Rd.ty s):=fun t h=>Mk s _ (Mk s t h)
def Pw{α:Type}{f:Rd.St->α×Rd.St}(b:Rd.Mon f):∀(n:Nat) (t:Rd.St),t.bad=true->(Rd.rep f n t).2.bad=true
 | 0,_,h=>h
 | n+1,t,h=>b _ (Pw b n t h)
def A2(s:TB)(n:Nat):Rd.Mon (Rd.tys s n):=fun t h=>Pw (Bj0 s) n t h
def Bow(s:TB):Rd.Mon (Rd.hnd s):=fun t h=>Mk s _ (Mk s _ (Mk s _ (Mk s t h)))
def Bdj(s:TB):Rd.Mon (Rd.hnds s):=fun t h=>Pw (Bow s) _ _ (Tb s 0 4 t h)
def Bqk(s:TB)(L H:Int):Rd.Mon (Rd.mp s L H):=fun t h=>A2 s _ _ (Tb s 0 H _ (A2 s _ _ (Mk s t h)))
def Bj1(s:TB):Rd.Mon (Rd.codes s):=fun t h=>Pw (Mk s) _ _ (Tb s 1 120 t h)
def Bkz(s:TB)(t:Rd.St)(h:(Rd.codes s t).2.bad=false):0<(Rd.codes s t).1.length:=by
 unfold Rd.codes at h ⊢;simp only at h ⊢;rw[Rd.rep_len];by_cases b:(Rd.cn s 1 120 t).2.bad=true;·rw[Pw (Mk s) _ _ b]at h;cases h
 unfold Rd.cn at b ⊢
 split at b
 ·exact absurd rfl b
 split at b
 ·exact absurd rfl b
 next h1 h2=>rw[Pk h1,Pk h2];omega
def Bf2(s:TB)(L H:Int):Rd.Mon (Rd.mps s L H):=fun t h=>Pw (Bqk s L H) _ _ (Tb s 0 64 t h)
def A3(s:TB):Rd.Mon (Rd.mth s):=fun t h=>by
 unfold Rd.mth;exact Bf2 s _ _ _ (Bdj s _ (Bj1 s _ (Tb s 0 8 _ (Tb s 0 8 _ (Bj0 s _ (A2 s _ _ (Tb s 0 4 _ (Mk s _ (Mk s t h)))))))))
def Bdg(s:TB)(t:Rd.St)(h:(Rd.mth s t).2.bad=false):0<(Rd.mth s t).1.code.length:=by
 unfold Rd.mth at h ⊢;simp only at h ⊢;refine Bkz s _ ?_;generalize Rd.codes s _=c at h ⊢;cases b:c.2.bad with
 | false=>rfl
 | true=>rw[Bf2 s _ _ _ (Bdj s _ b)]at h;cases h
def Bcv(s:TB):∀(n:Nat) (t:Rd.St),(Rd.rep (Rd.mth s) n t).2.bad=false->∀m∈(Rd.rep (Rd.mth s) n t).1,0<m.code.length
 | 0,_,_,m,b=>by simp[Rd.rep]at b
 | n+1,t,h,m,b=>by
  unfold Rd.rep at h b;simp only at h b;rcases List.mem_append.1 b with b|b
  ·refine Bcv s n t ?_ m b;cases c:(Rd.rep (Rd.mth s) n t).2.bad with
   | false=>rfl
   | true=>rw[A3 s _ c]at h;cases h
  rw[List.mem_singleton.1 b];exact Bdg s _ h
def Bjl(s:TB)(h:(Rd.read s).2=0):∀m∈(Rd.read s).1.methods,0<m.code.length:=by
 unfold Rd.read at h ⊢
 split
 ·simp
 next h1 =>
 rw[Pk h1]at h
 split
 ·simp
 next h2 =>
 rw[Pk h2]at h;simp only[Rd.fil]at h2 ⊢;refine Bcv s _ _ ?_;generalize (Rd.rep (Rd.mth s) _ _).2=t at *;cases b:t.bad with
 | false=>rfl
 | true=>exact absurd (.inl b) h2
structure Lw(S G:Nat)(w w':World):Prop where
 os:w'.os=w.os
 tape:w'.tape=w.tape
 output:w'.output=w.output
 size:w.heap.size<=w'.heap.size
 block:∀k,k<w.heap.size->k≠S->k≠G->w'.heap[k]?=w.heap[k]?
 tys:∀(k:Nat) (cs:Array Value),w.heap[k]?=some (.cells cs 31 (0,0))->w'.heap[k]?=some (.cells cs 31 (0,0))
def By (n:Int):Prop:=0<=n/\n<=255
def TyB (t:Int × Int):Prop:=By t.1/\By t.2
structure Bil(c:Rd.Cls):Prop where
 ab:By c.above
 fl:c.fields.length<=4
 ty:∀t∈c.fields,TyB t
structure Bq2(h:Rd.Hnd):Prop where
 fr:By h.frm
 tl:By h.til
 tg:By h.target
 cl:By h.cl
structure MpB(lo hi:Int)(m:Rd.Mp):Prop where
 pl:By m.place
 lo:(m.locals.length:Int)=lo
 hi:(m.stack.length:Int)<=hi
 tl:∀t∈m.locals,TyB t
 ts:∀t∈m.stack,TyB t
structure Bif(m:Rd.Mth):Prop where
 cl:By m.cl
 nm:By m.name
 pl:m.params.length<=4
 ps:∀t∈m.params,TyB t
 rs:TyB m.result
 lo:0<=m.locals/\m.locals<=8
 st:0<=m.stack/\m.stack<=8
 c1:1<=m.code.length
 c2:m.code.length<=120
 cb:∀x∈m.code,By x
 h4:m.handlers.length<=4
 hb:∀h∈m.handlers,Bq2 h
 m6:m.maps.length<=64
 mb:∀q∈m.maps,MpB m.locals m.stack q
structure Bn3(f:Rd.Fil):Prop where
 c6:f.classes.length<=6
 cb:∀c∈f.classes,Bil c
 m1:1<=f.methods.length
 m6:f.methods.length<=6
 mb:∀m∈f.methods,Bif m
def Xc{α:Type}{f:Rd.St->α×Rd.St}{P:α->Prop}(h:∀t,P (f t).1):∀(n:Nat) (t:Rd.St),∀x∈(Rd.rep f n t).1,P x
 | 0,_,x,b=>by simp[Rd.rep]at b
 | n+1,t,x,b=>by
  unfold Rd.rep at b;simp only at b;rcases List.mem_append.1 b with b|b
  ·exact Xc h n t x b
  rw[List.mem_singleton.1 b];exact h _
def Bpx(s:TB)(t:Rd.St):TyB (Rd.ty s t).1:=⟨Rd.nx_bd s _,Rd.nx_bd s _⟩
def Bce(s:TB)(n:Nat)(t:Rd.St):∀x∈(Rd.tys s n t).1,TyB x:=Xc (Bpx s) n t
def Brd(s:TB)(t:Rd.St):Bil (Rd.cls s t).1:=by
 refine⟨Rd.nx_bd s _,?_,Bce s _ _⟩;simp only[Rd.cls,Rd.tys,Rd.rep_len];have:=Rd.cn_bd s 0 4 (Rd.nx s t).2 Ck;omega
def Brc(s:TB)(t:Rd.St):Bq2 (Rd.hnd s t).1:=⟨Rd.nx_bd s _,Rd.nx_bd s _,Rd.nx_bd s _,Rd.nx_bd s _⟩
def Brh(s:TB)(L H:Int)(c:0<=L)(b:0<=H)(t:Rd.St):MpB L H (Rd.mp s L H t).1:=by
 refine⟨Rd.nx_bd s _,?_,?_,Bce s _ _,Bce s _ _⟩
 ·simp only[Rd.mp,Rd.tys,Rd.rep_len];omega
 simp only[Rd.mp,Rd.tys,Rd.rep_len];have:=Rd.cn_bd s 0 H (Rd.rep (Rd.ty s) L.toNat (Rd.nx s t).2).2 b;omega
def Bq8(s:TB)(t:Rd.St)(h:(Rd.mth s t).2.bad=false):Bif (Rd.mth s t).1:=by
 have c:=Bdg s t h;unfold Rd.mth at c ⊢;simp only at c ⊢;refine⟨Rd.nx_bd s _,Rd.nx_bd s _,?_,Bce s _ _,Bpx s _,Rd.cn_bd s _ _ _ Ck,Rd.cn_bd s _ _ _ Ck,c,?_,Xc (Rd.nx_bd s) _ _,?_,Xc (Brc s) _ _,?_,Xc (Brh s _ _ (Rd.cn_bd s _ _ _ Ck).1 (Rd.cn_bd s _ _ _ Ck).1) _ _⟩
 ·simp only[Rd.tys,Rd.rep_len];have:=Rd.cn_bd s 0 4 (Rd.nx s (Rd.nx s t).2).2 Ck;omega
 ·simp only[Rd.codes,Rd.rep_len];have b:=Rd.cn_bd s 1 120;generalize (Rd.cn s 0 8 _).2=u;have:=b u Ck;omega
 ·simp only[Rd.hnds,Rd.rep_len];have b:=Rd.cn_bd s 0 4;generalize (Rd.codes s _).2=u;have:=b u Ck;omega
 simp only[Rd.mps,Rd.rep_len];have b:=Rd.cn_bd s 0 64;generalize (Rd.hnds s _).2=u;have:=b u Ck;omega
def Bn5(s:TB):∀(n:Nat) (t:Rd.St),(Rd.rep (Rd.mth s) n t).2.bad=false->∀m∈(Rd.rep (Rd.mth s) n t).1,Bif m
 | 0,_,_,m,b=>by simp[Rd.rep]at b
 | n+1,t,h,m,b=>by
  unfold Rd.rep at h b;simp only at h b;rcases List.mem_append.1 b with b|b
  ·refine Bn5 s n t ?_ m b;cases c:(Rd.rep (Rd.mth s) n t).2.bad with
   | false=>rfl
   | true=>rw[A3 s _ c]at h;cases h
  rw[List.mem_singleton.1 b];exact Bq8 s _ h
def Bqt(s:TB)(a b:Int)(t:Rd.St)(h:(Rd.cn s a b t).2.bad=false):a<=(Rd.cn s a b t).1:=by
 unfold Rd.cn at h ⊢
 split at h
 ·cases h
 split at h
 ·cases h
 next h1 h2=>rw[Pk h1,Pk h2];omega
def Bp3(s:TB)(h:(Rd.read s).2=0):Bn3 (Rd.read s).1:=by
 unfold Rd.read at h ⊢;by_cases g:15000<s.length;·rw[Th g]at h;simp at h
 rw[Pk g]at h ⊢;by_cases e:(Rd.fil s ⟨0,false⟩).2.bad=true\/(Rd.fil s ⟨0,false⟩).2.pos≠s.length;·rw[Th e]at h;simp at h
 rw[Pk e];have b:(Rd.fil s ⟨0,false⟩).2.bad=false:=by
  cases b:(Rd.fil s ⟨0,false⟩).2.bad with
  | false=>rfl
  | true=>exact absurd (.inl b) e
 unfold Rd.fil at b ⊢;simp only at b ⊢;generalize Rd.ex s 77 (Rd.ex s 83 ⟨0,false⟩)=u at *;have q:=Rd.cn_bd s 0 6 u Ck;generalize Rd.cn s 0 6 u=n at *;have i:∀c∈(Rd.rep (Rd.cls s) n.1.toNat n.2).1,Bil c:=Xc (Brd s) _ _;have t:(Rd.rep (Rd.cls s) n.1.toNat n.2).1.length=n.1.toNat:=Rd.rep_len _ _ _;generalize Rd.rep (Rd.cls s) n.1.toNat n.2=f at *;have v:=Rd.cn_bd s 1 6 f.2 Ck;have j:=Bqt s 1 6 f.2;generalize Rd.cn s 1 6 f.2=m at *;have l:m.2.bad=false:=by
  cases p:m.2.bad with
  | false=>rfl
  | true=>rw[Pw (A3 s) _ _ p]at b;cases b
 have z:=j l;refine⟨Mc,i,?_,?_,Bn5 s _ _ b⟩
 ·simp only[Rd.rep_len];omega
 simp only[Rd.rep_len];omega
def Wj(c:TI):∀(k b:Nat),c.length<=b+k->∀(d r:List Nat) (p:Nat),Cd.starts c k b=d++p::r->p+Cd.wd (c.getD p 0)<c.length->∃g,r=(p+Cd.wd (c.getD p 0))::g
 | 0,b,_,d,r,p,h,_=>by simp[Cd.starts]at h
 | k+1,b,hk,d,r,p,h,hl=>by
  unfold Cd.starts at h;by_cases f:b<c.length
  ·rw[Th f]at h;have i:=Cd.wd_bd (c.getD b 0);cases d with
   | nil =>
    simp only[Btz,List.cons.injEq]at h;obtain⟨rfl,rfl⟩:=h;obtain⟨j,rfl⟩:∃j,k=j+1:=⟨k-1,Ck⟩;unfold Cd.starts;rw[Th hl];exact⟨_,rfl⟩
   | cons e d =>
    simp only[Bs5,List.cons.injEq]at h;exact Wj c k _ Ck d r p h.2 hl
  rw[Pk f]at h;simp at h
def Bc3{z:TI}{d r:List Nat}{u:Nat}(h:Cd.places z=d++u::r)(b:u+Cd.wd (z.getD u 0)<z.length):∃e,r=(u+Cd.wd (z.getD u 0))::e:=Wj z z.length 0 Ck d r u h b
def Sc{T:TI}{mp:Int->Option Bf}{p:Int}{lo:TP}:∀{hs:List Rd.Hnd},Fb T mp p lo hs=0<->∀h∈hs,Fo h p=true->∃z,mp h.target=some z/\Cj T ⟨lo,[(3,h.cl)]⟩ z=true
 | []=>by simp[Fb]
 | h::r=>by
  have i:=Sc (T:=T) (mp:=mp) (p:=p) (lo:=lo) (hs:=r);unfold Fb;have j:Fo h p=true<->h.frm<=p/\p<h.til:=by unfold Fo;simp
  by_cases m:p<h.frm
  ·rw[Th m,i]
   constructor
   ·intro g x b c;rcases List.mem_cons.1 b with rfl|b
    ·have:=(j.1 c).1;omega
    exact g x b c
   exact fun g x b=>g x (by simp[b])
  rw[Pk m];by_cases q:h.til<=p
  ·rw[Th q,i]
   constructor
   ·intro g x b c;rcases List.mem_cons.1 b with rfl|b
    ·have:=(j.1 c).2;omega
    exact g x b c
   exact fun g x b=>g x (by simp[b])
  rw[Pk q];have c:Fo h p=true:=j.2 ⟨Ck,Ck⟩;cases l:mp h.target with
  | none =>
   simp only[Bvr,Bv7]
   constructor
   ·intro g;omega
   intro g;obtain⟨z,e,_⟩:=g h Hd c;rw[l]at e;cases e
  | some z =>
   rw[Pk (show ¬(some z).isSome=false by simp),show Cu (some z)=z from rfl];by_cases f:Cj T ⟨lo,[(3,h.cl)]⟩ z=true
   ·rw[Pk (show ¬Cj T ⟨lo,[(3,h.cl)]⟩ z=false by rw[f];simp),i]
    constructor
    ·intro g x b s;rcases List.mem_cons.1 b with rfl|b
     ·exact⟨z,l,f⟩
     exact g x b s
    exact fun g x b=>g x (by simp[b])
   rw[Th (show Cj T ⟨lo,[(3,h.cl)]⟩ z=false by simpa using f)]
   constructor
   ·intro g;omega
   intro g;obtain⟨v,e,t⟩:=g h Hd c;rw[l]at e;cases e;exact absurd t f
def Bj9{z:TI}{mp:Int->Option Bf}{H:Int}{R:Option Bf}{op n p t:Int}:J1 z mp H R op n p t=0 <-> H=0/\∃y,R=some y/\(Ei op=true->∃c,mp n=some c/\Cj z y c=true)/\(Dl op=true->p<t/\∀c,mp p=some c->Cj z y c=true):=by
 unfold J1;by_cases i:H=0
 ·rw[Pk (fun g=>g i)];cases R with
  | none=>simp
  | some y =>
   rw[Pk (show ¬(some y).isSome=false by simp),show Cu (some y)=y from rfl]
   constructor
   ·intro h;refine⟨i,y,rfl,?_,?_⟩
    ·intro j;by_cases m:(mp n).isSome=false;·rw[Th ⟨j,m⟩]at h;omega
     rw[Pk (fun g=>m g.2)]at h;cases f:mp n with
     | none=>rw[f]at m;simp at m
     | some c =>
      rw[f,show Cu (some c)=c from rfl]at h;by_cases l:Cj z y c=false;·rw[Th ⟨j,l⟩]at h;omega
      exact⟨c,rfl,by simpa using l⟩
    intro q
    split at h
    ·omega
    split at h
    ·omega
    rw[Pk (by rw[q];simp)]at h
    split at h
    ·omega
    next v =>
    refine⟨Ck,fun c f=>?_⟩;rw[f,show Cu (some c)=c from rfl]at h;by_cases l:Cj z y c=false;·rw[Th ⟨rfl,l⟩]at h;omega
    simpa using l
   rintro ⟨-,B,e,j,q⟩;cases e;rw[Pk (by
    rintro ⟨a,b⟩;obtain⟨c,f,_⟩:=j a;rw[f]at b;simp at b),Pk (by
    rintro ⟨a,b⟩;obtain⟨c,f,A⟩:=j a;rw[f,show Cu (some c)=c from rfl,A]at b;cases b)]
   by_cases s:Dl op=true
   ·obtain⟨v,f⟩:=q s;rw[Pk (by rw[s];simp),Pk Ck,Pk (by
     rintro ⟨a,b⟩;obtain⟨c,e⟩:=Option.isSome_iff_exists.1 a;rw[e,show Cu (some c)=c from rfl,f c e]at b;cases b)]
   rw[Th (by simpa using s)]
 rw[Th i]
 constructor
 ·intro h;exact absurd h i
 intro h;exact absurd h.1 i
def Td{ah:Nat->Option Bf}{lk:Nat->Bf->Int}:∀{l:List Nat},(Gd ah lk l).1=0<->∀p∈l,∀x,ah p=some x->lk p x=0
 | []=>by simp[Gd]
 | p::r=>by
  have i:=Td (ah:=ah) (lk:=lk) (l:=r);unfold Gd;cases c:ah p with
  | none =>
   simp only;rw[i]
   constructor
   ·intro g q b x e;rcases List.mem_cons.1 b with rfl|b
    ·rw[c]at e;cases e
    exact g q b x e
   exact fun g q b=>g q (by simp[b])
  | some x =>
   simp only;by_cases h:lk p x=0
   ·rw[Pk (fun g=>g h),i]
    constructor
    ·intro g q b y f;rcases List.mem_cons.1 b with rfl|b
     ·rw[c]at f;cases f;exact h
     exact g q b y f
    exact fun g q b=>g q (by simp[b])
   rw[Th h]
   constructor
   ·intro g;exact absurd g h
   intro g;exact absurd (g p Hd x c) h
def Rv{m:List Rd.Cls}{i:List Rd.Mth}{K:Rd.Mth}{d r:List Nat}{u:Nat}(h:Cd.places K.code=d++u::r):Gs m i K u=(D9 K (u:Int)).or (d.foldl (fun o p=>J0 (fun p=>D9 K (p:Int)) (Ec m i K) (fun p=>Dl (K.code.getD p 0)) p o) (some (Er K))):=by
 have b:=Baw K.code;unfold Gs;rw[h]at b ⊢;exact W4 _ _ _ u r d _ (fun p c=>(List.pairwise_append.1 b).2.2 p c u Hd)
def Be8{m:List Rd.Cls}{i:List Rd.Mth}{K:Rd.Mth}(b:0<K.code.length):Gs m i K 0=(D9 K 0).or (some (Er K)):=by
 obtain⟨r,c⟩:∃r,Cd.places K.code=[]++0::r:=by
  unfold Cd.places;cases e:K.code.length with
  | zero=>omega
  | succ n =>
   unfold Cd.starts;rw[Th b];exact⟨_,rfl⟩
 rw[Rv c];rfl
def Be9{m:List Rd.Cls}{i:List Rd.Mth}{K:Rd.Mth}{u:Nat}(b:u∈Cd.places K.code)(c:u+Cd.wd (K.code.getD u 0)<K.code.length):Gs m i K (u+Cd.wd (K.code.getD u 0))=(D9 K ((u+Cd.wd (K.code.getD u 0):Nat):Int)).or ((Gs m i K u).bind fun x=>(Ec m i K u x).bind fun z=>if Dl (K.code.getD u 0)=true then some z else none):=by
 obtain⟨d,r,h⟩:=Bvv b;obtain⟨e,rfl⟩:=Bc3 h c;rw[Rv (d:=d++[u]) (r:=e) (by rw[h];simp),Rv h,List.foldl_append];rfl
def Tu (cs:List Rd.Cls)(ms:List Rd.Mth)(m:Rd.Mth)(q:Nat):Option Bf:=if q∈Cd.places m.code then Gs cs ms m q else none
def Rx{m:List Rd.Cls}{i:List Rd.Mth}{K:Rd.Mth}{u:Nat}(h:u∈Cd.places K.code):Tu m i K u=Gs m i K u:=Th h
def Si{m:List Rd.Cls}{i:List Rd.Mth}{K:Rd.Mth}{u:Nat}(h:u∈Cd.places K.code){z:Bf}(b:D9 K (u:Int)=some z):Gs m i K u=some z:=by
 obtain⟨d,r,h⟩:=Bvv h;rw[Rv h,b];rfl
def Bmy{m:List Rd.Cls}{i:List Rd.Mth}(k:Kn m i){K:Rd.Mth}(t:K∈i){q:Nat}(C:q∈Cd.places K.code){x:Bf}(h:Gs m i K q=some x):Io (Tr.tree m) K x:=by
 have g:=k.mt K t;obtain⟨d,r,A⟩:=Bvv C;rw[Rv A]at h;have D:∀(d:List Nat) (o:Option Bf),(∀p∈d,p∈Cd.places K.code)->(∀y,o=some y->Io (Tr.tree m) K y)->∀y,d.foldl (fun o p=>J0 (fun p=>D9 K (p:Int)) (Ec m i K) (fun p=>Dl (K.code.getD p 0)) p o) o=some y->Io (Tr.tree m) K y:=by
  intro d
  induction d with
  | nil=>intro o _ j y f;exact j y f
  | cons p d ih =>
   intro o B j y f;refine ih _ (fun p l=>B p (by simp[l])) (fun z b=>?_) y f;unfold J0 at b;simp only at b;cases e:(D9 K (p:Int)).or o with
   | none=>rw[e]at b;cases b
   | some u =>
    rw[e]at b;simp only[Bt7]at b;have F:Io (Tr.tree m) K u:=by
     cases c:D9 K (p:Int) with
     | none=>rw[c]at e;exact j u e
     | some v=>rw[c]at e;cases e;exact Rp g c
    cases s:Ec m i K p u with
    | none=>rw[s]at b;cases b
    | some v =>
     rw[s]at b;simp only[Bt7]at b
     split at b
     ·cases b;exact Pg k t (B p Hd) F s
     cases b
 cases c:D9 K (q:Int) with
 | none =>
  rw[c]at h;exact D d _ (fun p l=>by rw[A];simp[l]) (fun y f=>by cases f;exact Pt g) x h
 | some v=>rw[c]at h;cases h;exact Rp g c
def Bee{m:List Rd.Cls}{i:List Rd.Mth}{K:Rd.Mth}:(Hk m i K).1=0<->(∀z,D9 K 0=some z->Cj (Tr.tree m) (Er K) z=true)/\∀p∈Cd.places K.code,∀x,Gs m i K p=some x->Nt m i K p x=0:=by
 unfold Hk La;cases c:D9 K 0 with
 | none =>
  rw[Pk Hd,Td];simp
 | some z =>
  rw[show Cu (some z)=z from rfl];by_cases b:Cj (Tr.tree m) (Er K) z=true
  ·rw[Pk (fun g=>by rw[b]at g;cases g.2),Td]
   constructor
   ·intro h;exact⟨fun f e=>by cases e;exact b,h⟩
   intro h;exact h.2
  rw[Th ⟨rfl,by simpa using b⟩]
  constructor
  ·intro h;simp at h
  intro h;exact absurd (h.1 z rfl) b
def Bfh{m:List Rd.Cls}{i:List Rd.Mth}(k:Kn m i){K:Rd.Mth}(N:K∈i)(O:0<K.code.length)(h:(Hk m i K).1=0):Blh (Ji m i K) (Tu m i K)/\∀p∈Cd.places K.code,Tu m i K p≠none->∀q,Bq1 (Ji m i K) p q->∃z,D9 K (q:Int)=some z/\Tu m i K q=some z:=by
 have g:=k.mt K N;have I:=Bec k N O;have hT:Tr.Ok (Tr.tree m):=k.ok;obtain⟨h0,h1⟩:=Bee.1 h;have Q:∀{x y:Bf},Io (Tr.tree m) K x->Io (Tr.tree m) K y->Cj (Tr.tree m) x y=true->Lu (Tr.tree m) x y:=fun c F V=>Bd7.1 (by rw[<- Tf hT (Lh c) (Lh F)];exact V);have lk:∀p∈Cd.places K.code,∀x,Gs m i K p=some x->_:=fun p l x c=>Bj9.1 (show J1 _ _ _ _ _ _ _ _=0 from h1 p l x c);have a5:∀p x,Tu m i K p=some x->Io (Tr.tree m) K x:=by
  intro p x c;unfold Tu at c;by_cases l:p∈Cd.places K.code;·rw[Th l]at c;exact Bmy k N l c
  rw[Pk l]at c;cases c
 have hI:∀{f:Rd.Hnd}{x:Bf}{z:Bf},f∈K.handlers->Io (Tr.tree m) K x->Io (Tr.tree m) K z->Cj (Tr.tree m) ⟨x.locals,[(3,f.cl)]⟩ z=true->Lu (Tr.tree m) (Sa x f) z:=by
  intro f x z v c A V;refine Bd7.1 ?_;rw[<- Tf hT ?_ (Lh A)]
  ·exact V
  refine⟨fun t Y=>(c.tl t Y).1,fun t Y=>?_⟩;have:t=(3,f.cl):=by simpa[Sa] using Y
  rw[this];exact(I.hnd f v).2.2.2
 refine⟨⟨a5,?_,?_⟩,?_⟩
 ·have A:=Uj O;rw[Rx A,Be8 O];cases e:D9 K 0 with
  | none=>exact⟨_,rfl,.refl _ _⟩
  | some z=>exact⟨z,rfl,Q (Pt g) (Rp g e) (h0 z e)⟩
 ·intro p l x c;have J:p∈Cd.places K.code:=l;have hP:=a5 p x c;rw[Rx J]at c;obtain⟨Z,y,G,a3,a4⟩:=lk p J x c;have F:=Pg k N J hP G;refine⟨⟨y,G⟩,?_⟩;intro q u b hg;cases hg using I8.el with
  | hnd f v a0 =>
   obtain⟨z,j,B⟩:=Sc.1 Z f v a0;have C:=I.hnd f v;have s:((f.target.toNat:Nat):Int)=f.target:=Ck;have A:=Rp g j;have hl:=hI v hP A B;refine⟨C.1,C.2.1,?_,⟨z,?_,hl⟩,fun _=>trivial⟩
   ·have:=hl.st.len;have:=A.hi;show ((Sa x f).stack.length:Int)<=K.stack;omega
   rw[Rx C.2.2.1];exact Si C.2.2.1 (by rw[s];exact j)
  | jmp u hu L =>
   have:u=y:=by have:=hu.symm.trans G;cases this;rfl
   subst this;obtain⟨z,j,B⟩:=a3 L;have D:=I.tgt p l L;have s:((((Ji m i K).ar p).toNat:Nat):Int)=(Ji m i K).ar p:=Ck;have A:=Rp g j;refine⟨D.1,D.2.1,F.hi,⟨z,?_,Q F A B⟩,fun _=>trivial⟩;rw[Rx D.2.2];exact Si D.2.2 (by rw[s];exact j)
  | nxt u hu hgo =>
   have:u=y:=by have:=hu.symm.trans G;cases this;rfl
   subst this;obtain⟨j,B⟩:=a4 hgo;have hn:p+Cd.wd (K.code.getD p 0)<K.code.length:=Ck;have s:((Ji m i K).nx p).toNat=p+Cd.wd (K.code.getD p 0):=by
    show ((p:Int)+(Cd.wd (K.code.getD p 0):Int)).toNat=_;omega
   have a7:=Xs J hn;have a6:(Ji m i K).nx p=((p+Cd.wd (K.code.getD p 0):Nat):Int):=by
    show (p:Int)+(Cd.wd (K.code.getD p 0):Int)=_;omega
   have a8:Dl (K.code.getD p 0)=true:=hgo;refine⟨by rw[a6];omega,by rw[a6];exact j,F.hi,?_,fun h=>(by cases h)⟩;rw[s,Rx a7,Be9 J hn,c];simp only[Bt7];have a9:Ec m i K p x=some u:=G;rw[a9,Bt7,Th a8];cases e:D9 K ((p+Cd.wd (K.code.getD p 0):Nat):Int) with
   | none=>exact⟨u,rfl,.refl _ _⟩
   | some z=>exact⟨z,rfl,Q F (Rp g e) (B z e)⟩
 intro p l b0 q ha;cases c:Tu m i K p with
 | none=>exact absurd c b0
 | some x =>
  rw[Rx l]at c;obtain⟨Z,y,G,a3,a4⟩:=lk p l x c;rcases ha with ⟨f,v,a0,rfl⟩|⟨L,rfl⟩
  ·obtain⟨z,j,B⟩:=Sc.1 Z f v a0;have C:=I.hnd f v;have s:((f.target.toNat:Nat):Int)=f.target:=Ck;refine⟨z,by rw[s];exact j,?_⟩;rw[Rx C.2.2.1];exact Si C.2.2.1 (by rw[s];exact j)
  obtain⟨z,j,B⟩:=a3 L;have D:=I.tgt p l L;have s:((((Ji m i K).ar p).toNat:Nat):Int)=(Ji m i K).ar p:=Ck;refine⟨z,by rw[s];exact j,?_⟩;rw[Rx D.2.2];exact Si D.2.2 (by rw[s];exact j)
structure Bi where
 meth:Int
 pos:Nat
 next:Nat
 lo:List Int
 st:List Int
 h:Nat
def Ig:List Int:=[0,0,0,0,0,0,0,0]
def D8 (v:Int)(c:Bi):Bi:=if 8<=c.h then c else ⟨c.meth,c.pos,c.next,c.lo,c.st.set c.h v,c.h+1⟩
def Bv (c:Bi):Int × Bi:=if c.h=0 then (0,c) else (c.st.getD (c.h-1) 0,⟨c.meth,c.pos,c.next,c.lo,c.st,c.h-1⟩)
def Dt:Nat->Bi->List Int × Bi
 | 0,c=>([],c)
 | k+1,c=>((Dt k (Bv c).2).1++[(Bv c).1],(Dt k (Bv c).2).2)
def Tt (n:Int)(c:Bi):Int:=if n<0 then 0 else if 8<=n then 0 else c.lo.getD n.toNat 0
def Ep (n v:Int)(c:Bi):Bi:=if n<0 then c else if 8<=n then c else ⟨c.meth,c.pos,c.next,c.lo.set n.toNat v,c.st,c.h⟩
def N4 (o:Int)(t:Nat)(c:Bi):Bi:=⟨c.meth,c.pos,t,c.lo,c.st.set 0 o,1⟩
def Jy:Nat->TI->Bi->Bi
 | _,[],c=>c
 | i,v::r,c=>Jy (i+1) r (Ep (i:Int) v c)
def Cn (m:Int)(vs:TI):Bi:=Jy 0 vs ⟨m,0,0,Ig,Ig,0⟩
def L5 (b:Int):Int:=if 127<b then b-256 else b
def Fy (v:Int):Int:=(v+2147483648) % 4294967296-2147483648
def Ia (op x y:Int):Option Int :=
 if op=7 then some (Fy (Fy x+Fy y)) else if op=8 then some (Fy (Fy x-Fy y)) else if op=9 then some (Fy (Fy x*Fy y))
 else if Fy y=0 then none else some (Fy ((Fy x).tdiv (Fy y)))
def Jk (op n:Int)(c:Bi):Bi :=
 if op=0 then D8 (L5 n) c
 else if op=1 then D8 0 c
 else if op=2 then D8 (Tt n c) c
 else if op=3 then Ep n (Bv c).1 (Bv c).2
 else if op=4 then (Bv c).2
 else if op=5 then D8 (Bv c).1 (D8 (Bv c).1 (Bv c).2)
 else if op=6 then D8 (Bv (Bv c).2).1 (D8 (Bv c).1 (Bv (Bv c).2).2)
 else c
def Ki (t:Nat)(c:Bi):Bi:=⟨c.meth,c.pos,t,c.lo,c.st,c.h⟩
def Gq (op n:Int)(c:Bi):Bi :=
 if op=12 then (if (Bv c).1=0 then Ki n.toNat (Bv c).2 else (Bv c).2)
 else if op=13 then (if (Bv (Bv c).2).1<(Bv c).1 then Ki n.toNat (Bv (Bv c).2).2 else (Bv (Bv c).2).2)
 else if op=14 then (if (Bv c).1=0 then Ki n.toNat (Bv c).2 else (Bv c).2)
 else Ki n.toNat c
structure Dn where
 T:List Int
 FL:List (List (Int × Int))
 ms:List Rd.Mth
 ins:List Int
 room:Int
 depth:Int
structure Bo where
 read:Nat
 objs:List (Int × List Int)
 now:Bi
 wait:List Bi
 ended:Bool
 out:List Int
 status:Int
 value:Int
 steps:Nat
def Bo.withNow(S:Bo)(c:Bi):Bo:=⟨S.read,S.objs,c,S.wait,S.ended,S.out,S.status,S.value,S.steps⟩
def Bo.withObjs(S:Bo)(l:List (Int × List Int)):Bo:=⟨S.read,l,S.now,S.wait,S.ended,S.out,S.status,S.value,S.steps⟩
def Bo.opened(S:Bo)(c:Bi):Bo:=⟨S.read,S.objs,c,S.wait++[S.now],S.ended,S.out,S.status,S.value,S.steps⟩
def Bo.fin(S:Bo)(st v:Int):Bo:=⟨S.read,S.objs,S.now,S.wait,true,S.out,st,v,S.steps⟩
def Bo.push(S:Bo)(v:Int):Bo:=S.withNow (D8 v S.now)
def Bo.popped(S:Bo):Bo:=S.withNow (Bv S.now).2
def Bo.top(S:Bo):Int:=(Bv S.now).1
def Ef:Rd.Mth:=⟨0,0,[],(0,0),0,0,[],[],[]⟩
def Dn.meth(E:Dn)(n:Int):Rd.Mth:=if n<0 then Ef else if (E.ms.length:Int)<=n then Ef else E.ms.getD n.toNat Ef
def Lr (r:Int)(l:List (Int × List Int)):Bool:=decide (1<=r)&&decide (r<=(l.length:Int))
def K6 (r:Int)(l:List (Int × List Int)):Int × List Int:=l.getD (r-1).toNat (0,[])
def Ho (r:Int)(l:List (Int × List Int)):Int:=if Lr r l=true then (K6 r l).1 else 0
def Iq (r s:Int)(l:List (Int × List Int)):Bool:=Lr r l&&(decide (0<=s)&&decide (s<((K6 r l).2.length:Int)))
def Ss (r s:Int)(l:List (Int × List Int)):Int:=if Iq r s l=true then (K6 r l).2.getD s.toNat 0 else 0
def Ra (r s v:Int)(l:List (Int × List Int)):List (Int × List Int):=if Iq r s l=true then l.set (r-1).toNat ((K6 r l).1,(K6 r l).2.set s.toNat v) else l
def P9 (r:Int)(fs:TI)(l:List (Int × List Int)):List (Int × List Int):=if Lr r l=true then l.set (r-1).toNat ((K6 r l).1,fs) else l
def Il (T:TI)(FL:List (List (Int × Int)))(n:Int):Int :=
 if (Dw n FL 0 0).1 = -1 then -1 else ((Dk T FL (Dw n FL 0 0).1).length:Int)-((Ln FL (Dw n FL 0 0).1).length:Int)+(Dw n FL 0 0).2
def Hi (T:TI)(cl:Int)(pos:Nat):List Rd.Hnd->Option Nat
 | []=>none
 | h::r=>if (Fo h (pos:Int)&&Tr.within T cl h.cl)=true then some h.target.toNat else Hi T cl pos r
def Dn.target(E:Dn)(cl:Int)(c:Bi):Option Nat:=Hi E.T cl c.pos (E.meth c.meth).handlers
def Jd (E:Dn)(o cl:Int):Nat->Bo->Bo
 | 0,S=>S
 | k+1,S=>match E.target cl S.now with
  | some t=>S.withNow (N4 o t S.now)
  | none=>match S.wait.getLast? with
   | none=>S.fin 2 cl
   | some c=>Jd E o cl k ⟨S.read,S.objs,c,S.wait.dropLast,S.ended,S.out,S.status,S.value,S.steps⟩
def Lf (E:Dn)(o:Int)(S:Bo):Bo:=Jd E o (Ho o S.objs) (S.wait.length+1) S
def Fd (E:Dn)(cl:Int)(S:Bo):Bo:=Lf E (cl-2+1) S
def Hj (E:Dn)(m:Int)(vs:TI)(S:Bo):Bo :=
 if E.depth<=(S.wait.length:Int)+1 then Fd E 6 S else S.opened (Cn m vs)
def Fs (k:Nat)(S:Bo):Bo:=S.withNow (Dt k S.now).2
def Ih (k:Nat)(S:Bo):List Int:=(Dt k S.now).1
def Su (E:Dn)(n:Int)(S:Bo):Bo:=Hj E n (Ih (E.meth n).params.length S) (Fs (E.meth n).params.length S)
def Gp (T:TI)(cl name:Int):List Rd.Mth->Int->Int->Int->Int
 | [],_,found,_=>found
 | m::r,i,found,high=>if (m.name==name&&(decide (high<=m.cl)&&Tr.within T cl m.cl))=true then Gp T cl name r (i+1) i m.cl else Gp T cl name r (i+1) found high
def Dn.nearest(E:Dn)(cl name:Int):Int:=Gp E.T cl name E.ms 0 0 0
def Nq (E:Dn)(name o:Int)(vs:TI)(S:Bo):Bo :=
 if o=0 then Fd E 3 S else Hj E (E.nearest (Ho o S.objs) name) (o::vs) S
def Oy (E:Dn)(n:Int)(S:Bo):Bo :=
 Nq E (E.meth n).name (Fs (E.meth n).params.length S).top (Ih (E.meth n).params.length S) (Fs (E.meth n).params.length S).popped
def Kf (res:Int × Int)(v:Int)(S:Bo):Bo:=match S.wait.getLast? with
 | none=>S.fin 0 (if res.1=1 then v else 0)
 | some c=>⟨S.read,S.objs,(if res.1=0 then c else D8 v c),S.wait.dropLast,S.ended,S.out,S.status,S.value,S.steps⟩
def Jq (E:Dn)(S:Bo):Bo :=
 if (E.meth S.now.meth).result.1=0 then Kf (E.meth S.now.meth).result 0 S else Kf (E.meth S.now.meth).result S.top S.popped
def Jc (E:Dn)(S:Bo):Bo:=if S.top=0 then Fd E 3 S.popped else Lf E S.top S.popped
def Po (E:Dn)(S:Bo):Bo :=
 if S.read<E.ins.length then (⟨S.read+1,S.objs,S.now,S.wait,S.ended,S.out,S.status,S.value,S.steps⟩:Bo).push (E.ins.getD S.read 0) else S.push 0
def Vd (S:Bo):Bo:=⟨S.read,S.objs,(Bv S.now).2,S.wait,S.ended,S.out++[S.top],S.status,S.value,S.steps⟩
def L6 (E:Dn)(op:Int)(S:Bo):Bo:=match Ia op S.popped.top S.top with
 | none=>Fd E 2 S.popped.popped
 | some z=>S.popped.popped.push z
def L7 (E:Dn)(cl:Int)(S:Bo):Bo :=
 if E.room<=(S.objs.length:Int)-5 then Fd E 5 S else (S.withObjs (S.objs++[(cl,[])])).push ((S.objs.length:Int)+1)
def Lq (E:Dn)(cl:Int)(S:Bo):Bo :=
 (Fs (Dk E.T E.FL cl).length S).popped.withObjs (P9 (Fs (Dk E.T E.FL cl).length S).top (Ih (Dk E.T E.FL cl).length S) S.objs)
def Ke (E:Dn)(n:Int)(S:Bo):Bo:=if S.top=0 then Fd E 3 S.popped else S.popped.push (Ss S.top (Il E.T E.FL n) S.objs)
def Kd (E:Dn)(n:Int)(S:Bo):Bo :=
 if S.popped.top=0 then Fd E 3 S.popped.popped else S.popped.popped.withObjs (Ra S.popped.top (Il E.T E.FL n) S.top S.objs)
def Oz (E:Dn)(cl:Int)(S:Bo):Bo :=
 if S.top=0 then S.popped.push S.top else if Tr.within E.T (Ho S.top S.objs) cl=true then S.popped.push S.top else Fd E 4 S.popped
def Ch (E:Dn)(op n:Int)(S:Bo):Bo :=
 if op<=6 then S.withNow (Jk op n S.now)
 else if op<=10 then L6 E op S
 else if op<=14 then S.withNow (Gq op n S.now)
 else if op=15 then L7 E n S
 else if op=16 then Lq E n S
 else if op=17 then Ke E n S
 else if op=18 then Kd E n S
 else if op=19 then Oz E n S
 else if op=20 then Su E n S
 else if op=21 then Oy E n S
 else if op=22 then Jq E S
 else if op=23 then Jc E S
 else if op=24 then Po E S
 else if op=25 then Vd S
 else S
def Fg (E:Dn)(c:Bi):Cd.Ins:=Cd.orZero (Cd.one (E.meth c.meth).code c.next)
def Mh (E:Dn)(S:Bo):Bo :=
 ⟨S.read,S.objs,⟨S.now.meth,S.now.next,(Fg E S.now).place.toNat+Cd.wd (Fg E S.now).op,S.now.lo,S.now.st,S.now.h⟩,S.wait,S.ended,S.out,S.status,S.value,S.steps+1⟩
def Gk (E:Dn)(S:Bo):Bo:=Ch E (Fg E S.now).op (Fg E S.now).n (Mh E S)
def N5 (E:Dn)(fuel:Nat):Nat->Bo->Bo
 | 0,S=>S
 | k+1,S=>if S.ended=true then S else if fuel<=S.steps then S.fin 1 0 else N5 E fuel k (Gk E S)
def Gb (entry:Int):Bo:=⟨0,[(2,[]),(3,[]),(4,[]),(5,[]),(6,[])],Cn entry [],[],false,[],0,0,0⟩
def Oc (E:Dn)(fuel:Nat)(entry:Int):Bo:=N5 E fuel (fuel+2) (Gb entry)
structure Bge(S R:Bo):Prop where
 steps:R.steps=S.steps
 out:R.out=S.out\/∃v,R.out=S.out++[v]
 fin:S.ended=false->R.ended=true->R.status=0\/R.status=2
structure Cr(S R:Bo):Prop where
 steps:R.steps=S.steps
 out:R.out=S.out
 fin:S.ended=false->R.ended=true->R.status=0\/R.status=2
def Cr.mild{S R:Bo}(h:Cr S R):Bge S R:=⟨h.steps,.inl h.out,h.fin⟩
def Cr.refl(S:Bo):Cr S S:=⟨rfl,rfl,fun c b=>by rw[c]at b;cases b⟩
def Cr.same{S R:Bo}(c:R.steps=S.steps)(e:R.out=S.out)(f:R.ended=S.ended):Cr S R:=⟨c,e,fun a b=>by rw[f,a]at b;cases b⟩
def Cr.then{S R Q:Bo}(c:R.steps=S.steps)(e:R.out=S.out)(f:R.ended=S.ended)(h:Cr R Q):Cr S Q :=
 ⟨h.steps.trans c,h.out.trans e,fun a b=>h.fin (f.trans a) b⟩
def Xk(E:Dn)(o b:Int):∀(k:Nat) (S:Bo),Cr S (Jd E o b k S)
 | 0,S=>Cr.refl S
 | k+1,S=>by
  unfold Jd;cases E.target b S.now with
  | some t=>exact Cr.same rfl rfl rfl
  | none =>
   cases S.wait.getLast? with
   | none=>exact⟨rfl,rfl,fun _ _=>.inr rfl⟩
   | some c=>exact Cr.then (R:=⟨S.read,S.objs,c,S.wait.dropLast,S.ended,S.out,S.status,S.value,S.steps⟩) rfl rfl rfl (Xk E o b k _)
def Zc(E:Dn)(o:Int)(S:Bo):Cr S (Lf E o S):=Xk _ _ _ _ _
def Kw(E:Dn)(b:Int)(S:Bo):Cr S (Fd E b S):=Zc _ _ _
def Wa(E:Dn)(m:Int)(b:TI)(S:Bo):Cr S (Hj E m b S):=by
 unfold Hj
 split
 ·exact Kw _ _ _
 exact Cr.same rfl rfl rfl
def Yh(r:Int×Int)(v:Int)(S:Bo):Cr S (Kf r v S):=by
 unfold Kf;cases S.wait.getLast? with
 | none=>exact⟨rfl,rfl,fun _ _=>.inl rfl⟩
 | some c=>exact Cr.same rfl rfl rfl
def Bnv(E:Dn)(op n:Int)(S:Bo):Bge S (Ch E op n S):=by
 unfold Ch;by_cases c:op<=6;·rw[Th c];exact Cr.mild (Cr.same rfl rfl rfl)
 rw[Pk c];by_cases e:op<=10
 ·rw[Th e];unfold L6;cases Ia op S.popped.top S.top with
  | none=>exact Cr.mild (Cr.then (R:=S.popped.popped) rfl rfl rfl (Kw _ _ _))
  | some z=>exact Cr.mild (Cr.same rfl rfl rfl)
 rw[Pk e];by_cases f:op<=14;·rw[Th f];exact Cr.mild (Cr.same rfl rfl rfl)
 rw[Pk f];by_cases g:op=15
 ·rw[Th g];unfold L7
  split
  ·exact Cr.mild (Kw _ _ _)
  exact Cr.mild (Cr.same rfl rfl rfl)
 rw[Pk g];by_cases h:op=16;·rw[Th h];exact Cr.mild (Cr.same rfl rfl rfl)
 rw[Pk h];by_cases i:op=17
 ·rw[Th i];unfold Ke
  split
  ·exact Cr.mild (Cr.then (R:=S.popped) rfl rfl rfl (Kw _ _ _))
  exact Cr.mild (Cr.same rfl rfl rfl)
 rw[Pk i];by_cases j:op=18
 ·rw[Th j];unfold Kd
  split
  ·exact Cr.mild (Cr.then (R:=S.popped.popped) rfl rfl rfl (Kw _ _ _))
  exact Cr.mild (Cr.same rfl rfl rfl)
 rw[Pk j];by_cases l:op=19
 ·rw[Th l];unfold Oz
  split
  ·exact Cr.mild (Cr.same rfl rfl rfl)
  split
  ·exact Cr.mild (Cr.same rfl rfl rfl)
  exact Cr.mild (Cr.then (R:=S.popped) rfl rfl rfl (Kw _ _ _))
 rw[Pk l];by_cases m:op=20;·rw[Th m];exact Cr.mild (Cr.then (R:=Fs (E.meth n).params.length S) rfl rfl rfl (Wa _ _ _ _))
 rw[Pk m];by_cases p:op=21
 ·rw[Th p];refine Cr.mild (Cr.then (R:=(Fs (E.meth n).params.length S).popped) rfl rfl rfl ?_);unfold Oy Nq
  split
  ·exact Kw _ _ _
  exact Wa _ _ _ _
 rw[Pk p];by_cases q:op=22
 ·rw[Th q];unfold Jq
  split
  ·exact Cr.mild (Yh _ _ _)
  exact Cr.mild (Cr.then (R:=S.popped) rfl rfl rfl (Yh _ _ _))
 rw[Pk q];by_cases s:op=23
 ·rw[Th s];unfold Jc
  split
  ·exact Cr.mild (Cr.then (R:=S.popped) rfl rfl rfl (Kw _ _ _))
  exact Cr.mild (Cr.then (R:=S.popped) rfl rfl rfl (Zc _ _ _))
 rw[Pk s];by_cases t:op=24
 ·rw[Th t];unfold Po
  split
  ·exact Cr.mild (Cr.same rfl rfl rfl)
  exact Cr.mild (Cr.same rfl rfl rfl)
 rw[Pk t];by_cases v:op=25;·rw[Th v];exact⟨rfl,.inr ⟨_,rfl⟩,fun a b=>by rw[show (Vd S).ended=S.ended from rfl,a]at b;cases b⟩
 rw[Pk v];exact Cr.mild (Cr.refl S)
def Rr(E:Dn)(S:Bo):(Gk E S).steps=S.steps+1/\((Gk E S).out=S.out\/∃v,(Gk E S).out=S.out++[v])/\(S.ended=false->(Gk E S).ended=true->(Gk E S).status=0\/(Gk E S).status=2):=by
 have h:=Bnv E (Fg E S.now).op (Fg E S.now).n (Mh E S);exact⟨h.steps,h.out,h.fin⟩
def In (E:Dn):Nat->Bo->Bo
 | 0,S=>S
 | k+1,S=>if S.ended=true then S else In E k (Gk E S)
def Nr (R:Bo):Bo:=if R.ended=true then R else R.fin 1 0
def Wr(E:Dn)(k:Nat){S:Bo}(h:S.ended=true):In E k S=S:=by cases k<;>simp[In,h]
def Bke(E:Dn):∀(a b:Nat) (S:Bo),In E (a+b) S=In E b (In E a S)
 | 0,b,S=>by rw[Brz];rfl
 | a+1,b,S=>by
  rw[show a+1+b=a+b+1 by omega,In,In];by_cases h:S.ended=true;·rw[Th h,Th h,Wr E b h]
  rw[Pk h,Pk h,Bke E a b]
def Bf3(E:Dn)(f:Nat):∀(d k:Nat) (S:Bo),S.steps+d=f->d+2<=k->N5 E f k S=Nr (In E d S)
 | d,0,S,_,hk=>Ck
 | d,k+1,S,hd,hk=>by
  unfold N5;by_cases h:S.ended=true;·rw[Th h,Wr E d h];unfold Nr;rw[Th h]
  rw[Pk h];cases d with
  | zero=>rw[Th Ck];unfold Nr;rw[In,Pk h]
  | succ e =>
   rw[Pk Ck,In,Pk h];exact Bf3 E f e k _ (by rw[(Rr E S).1];omega) Ck
def Bja(E:Dn)(f:Nat)(b:Int):Oc E f b=Nr (In E f (Gb b)):=by
 have:(Gb b).steps=0:=rfl;exact Bf3 E f f (f+2) _ (by rw[this];omega) Ck
structure Bpq(k:Nat)(S R:Bo):Prop where
 le:R.steps<=S.steps+k
 ge:S.steps<=R.steps
 on:R.ended=false->R.steps=S.steps+k
 out:∃l,R.out=S.out++l/\S.steps+l.length<=R.steps
 fin:S.ended=false->R.ended=true->(R.status=0\/R.status=2)/\S.steps<R.steps
def A5(E:Dn):∀(k:Nat) (S:Bo),Bpq k S (In E k S)
 | 0,S=>⟨Bru _,Bru _,fun _=>rfl,⟨[],by simp[In],by simp[In]⟩,fun a b=>by rw[show In E 0 S=S from rfl,a]at b;cases b⟩
 | k+1,S=>by
  unfold In;by_cases h:S.ended=true;·rw[Th h];exact⟨Ck,Bru _,fun a=>(by rw[a]at h;cases h),⟨[],Hd,Hd⟩,fun a=>(by rw[a]at h;cases h)⟩
  rw[Pk h];have i:S.ended=false:=by simpa using h
  obtain⟨p,j,m⟩:=Rr E S;have g:=A5 E k (Gk E S);have q:=g.le;have s:=g.ge;refine⟨Ck,Ck,fun a=>by have:=g.on a;omega,?_,fun _ b=>⟨?_,Ck⟩⟩
  ·obtain⟨l,f,t⟩:=g.out;rcases j with e|⟨v,e⟩
   ·exact⟨l,by rw[f,e],Ck⟩
   exact⟨v::l,by rw[f,e];simp,by simp only[Br7];omega⟩
  by_cases c:(Gk E S).ended=true;·rw[Wr E k c];exact m i c
  exact(g.fin (by simpa using c) b).1
def further(E:Dn)(f d:Nat)(c:Int)(A B:Bo)(e:Oc E f c=A)(i:Oc E (f+d) c=B):A.steps<=f/\B.steps<=f+d/\A.steps<=B.steps/\A.out.length<=A.steps/\((A.status=1/\(∃l,B.out=A.out++l)/\A.steps=f/\A.value=0)\/(A=B/\0<A.steps/\(A.status=0\/A.status=2))):=by
 rw[Bja]at e i;rw[Bke]at i;have g:=A5 E f (Gb c);have g2:=A5 E d (In E f (Gb c));have z:(Gb c).steps=0:=rfl;have m:(Gb c).out=[]:=rfl;have p:(Gb c).ended=false:=rfl;generalize In E f (Gb c)=R at *;have v:=g.le;have C:=g2.le;have D:=g.ge;have F:=g2.ge;obtain⟨l,j,G⟩:=g.out;rw[m,Btz]at j;unfold Nr at e i;by_cases h:R.ended=true;·rw[Th h]at e;subst e;rw[Wr E d h,Th h]at i;subst i;obtain⟨a,b⟩:=g.fin p h;exact⟨Ck,Ck,Ck,by rw[j];omega,.inr ⟨rfl,Ck,a⟩⟩
 rw[Pk h]at e;subst e;have I:R.steps=0+f:=by have:=g.on (by simpa using h);omega
 obtain⟨q,s,J⟩:=g2.out;have t:B.steps=(In E d R).steps/\B.out=(In E d R).out:=by
  rw[<- i];split<;>exact⟨rfl,rfl⟩
 refine⟨by show R.steps<=f;omega,Ck,by show R.steps<=B.steps;omega,by show R.out.length<=R.steps;rw[j];omega,.inl ⟨rfl,⟨q,?_⟩,by show R.steps=f;omega,rfl⟩⟩;rw[t.2,s];rfl
def Mid (w:TW)(B:Nat)(t:TypeId)(pre mid post:TV):Prop:=w.heap[B]?=some (.cells (pre++(mid++post)).toArray t (0,0))
def Mid.cell{w:TW}{u o j:Nat}{t:TypeId}{e J b:TV}(h:Mid w u t e J b)(f:e.length=o)(c:j<J.length):w.cell? (.a u (o+j))=J[j]?:=by
 rw[Bb h,Buq,Br0 Ck,show o+j-e.length=j by omega,Br6 c]
def Mid.free{w:TW}{u:Nat}{j:TypeId}{e J c:TV}(h:Mid w u j e J c)(b:Nat):w.frozen? (.a u b)=false:=Bk h b
def Mid.set{w:TW}{u o j:Nat}{t:TypeId}{e J c:TV}(h:Mid w u t e J c)(g:e.length=o)(f:j<J.length)(b:TX):Mid (w.setCell (.a u (o+j)) b) u t e (J.set j b) c:=by
 unfold Mid at h ⊢;rw[Bt h]
 congr 2
 rw[Bvz,Bs9 _ _ Ck,show o+j-e.length=j by omega,Buf _ _ f]
def Mid.range{w:TW}{u o:Nat}{j:TypeId}{e J f:TV}(h:Mid w u j e J f)(g:e.length=o):w.rangeAt u o J:=fun b v c=>by
 rw[h.cell g (List.getElem?_eq_some_iff.1 c).1];exact c
def Mid.there{w:TW}{u o n:Nat}{j:TypeId}{e J c:TV}(h:Mid w u j e J c)(f:e.length=o)(g:J.length=n):w.there u o n:=fun b i=>by
 refine⟨?_,h.free _⟩;rw[h.cell f Ck,Brl Ck];rfl
def Mid.lt{w:TW}{u:Nat}{j:TypeId}{e J b:TV}(h:Mid w u j e J b):u<w.heap.size:=Sp h
def Mid.below{w s:TW}{u:Nat}{j:TypeId}{e J b:TV}(h:Mid w u j e J b)(c:Bl w s):Mid s u j e J b:=by
 unfold Mid;rw[c.block u h.lt];exact h
def Mid.alloc{w:TW}{u:Nat}{j:TypeId}{e J b:TV}(h:Mid w u j e J b)(x:Obj):Mid (w.alloc x) u j e J b:=by
 unfold Mid;rw[Br2 w x u h.lt];exact h
def Mid.drewN{w:TW}{u:Nat}{j:TypeId}{e J b:TV}(h:Mid w u j e J b)(n:Nat):Mid (w.drewN n) u j e J b:=h
def Pe{u:Nat}{t:TypeId}:∀(f b e c:TV) (w:TW),e.length=f.length->Mid w u t b e c->Mid (w.setCells u b.length f) u t b f c
 | [],b,e,c,w,hl,h=>by
  obtain rfl:e=[]:=Bso (by simpa using hl);exact h
 | v::r,b,[],c,w,hl,h=>by simp at hl
 | v::r,b,x::q,c,w,hl,h=>by
  rw[World.setCells];have i:Mid (w.setCell (.a u b.length) v) u t b (v::q) c:=h.set (o:=b.length) (j:=0) rfl Hd v;have l:Mid (w.setCell (.a u b.length) v) u t (b++[v]) q c:=by
   unfold Mid at i ⊢;rw[i];simp
  have g:=Pe r (b++[v]) q c _ (by simpa using hl) l;rw[Ws,Bs8]at g;unfold Mid at g ⊢;rw[g];simp
def Gr.setB{u i:Nat}{a s:TW}(h:Gr u a s)(c:TX):Gr u a (s.setCell (.a u i) c):=h.set (.inr rfl) c
def Rk(B:Nat):∀(b:TV) (o:Nat) (w:TW),Gr B w (w.setCells B o b)
 | [],_,w=>Gr.refl B w
 | v::r,o,w=>by
  rw[World.setCells];exact((Gr.refl B w).set (.inr rfl) v).trans (Rk B r (o+1) _)
def Bi.cells(c:Bi):List Value:=.int .i64 c.meth :: .int .i64 (c.pos:Int) :: .int .i64 (c.next:Int)::(c.lo.map (Value.int .i64)++(c.st.map (Value.int .i64)++[.int .i64 (c.h:Int)]))
structure Dz(c:Bi):Prop where
 lo:c.lo.length=8
 st:c.st.length=8
 h:c.h<=8
def Dz.len{c:Bi}(h:Dz c):c.cells.length=20:=by simp[Bi.cells,h.lo,h.st]
def Nl(c:Bi):∀v∈c.cells,v.oneCell'=true:=by
 intro v b;simp only[Bi.cells,Bub,Bs1,List.mem_map,Buh,Bv8]at b;rcases b with rfl|rfl|rfl|⟨x,_,rfl⟩|⟨x,_,rfl⟩|rfl<;>rfl
def Bnm{c:Bi}(b:Dz c){k:Nat}(e:k<8):c.cells[3+k]?=some (.i (c.lo.getD k 0)):=by
 have h:=b.lo;rw[Bi.cells,show 3+k=k+1+1+1 by omega,Bsn,Bsn,Bsn,Br6 Fr,Bsf,Vm,Brl Ck];rfl
def Bnl{c:Bi}(b:Dz c){k:Nat}(e:k<8):c.cells[11+k]?=some (.i (c.st.getD k 0)):=by
 have h:=b.lo;have f:=b.st;rw[Bi.cells,show 11+k=8+k+1+1+1 by omega,Bsn,Bsn,Bsn,Br0 Fr,Br1,h,show 8+k-8=k by omega,
  Br6 Fr,Bsf,Vm,Brl Ck]
 rfl
def Bpc{c:Bi}(b:Dz c):c.cells[19]?=some (.i (c.h:Int)):=by
 have h:=b.lo;have e:=b.st;rw[Bi.cells,Bsn,Bsn,Bsn,Br0 Fr,Br1,h,Br0 Fr,Br1,e];rfl
def Bfj{c:Bi}(b:Dz c){k:Nat}(e:k<8)(v:Int):c.cells.set (3+k) (.i v)=(⟨c.meth,c.pos,c.next,c.lo.set k v,c.st,c.h⟩:Bi).cells:=by
 have h:=b.lo;rw[Bi.cells,show 3+k=k+1+1+1 by omega,Bsp,Bsp,Bsp,Buf _ _ Fr,<- But];rfl
def Bfi{c:Bi}(b:Dz c){k:Nat}(e:k<8)(v:Int):c.cells.set (11+k) (.i v)=(⟨c.meth,c.pos,c.next,c.lo,c.st.set k v,c.h⟩:Bi).cells:=by
 have h:=b.lo;have f:=b.st;rw[Bi.cells,show 11+k=8+k+1+1+1 by omega,Bsp,Bsp,Bsp,Bs9 _ _ Fr,Br1,h,show 8+k-8=k by omega,
  Buf _ _ Fr,<- But]
 rfl
def Bh3{c:Bi}(b:Dz c)(n:Nat):c.cells.set 19 (.i (n:Int))=(⟨c.meth,c.pos,c.next,c.lo,c.st,n⟩:Bi).cells:=by
 have h:=b.lo;have e:=b.st;rw[Bi.cells,Bsp,Bsp,Bsp,Bs9 _ _ Fr,Br1,h,Bs9 _ _ Fr,Br1,e];rfl
structure Bn4(w:World)(B o:Nat)(c:Bi):Prop where
 m:w.cell? ⟨B,o,none⟩=some (.int .i64 c.meth)
 p:w.cell? ⟨B,o+1,none⟩=some (.int .i64 (c.pos:Int))
 n:w.cell? ⟨B,o+2,none⟩=some (.int .i64 (c.next:Int))
 h:w.cell? ⟨B,o+19,none⟩=some (.int .i64 (c.h:Int))
 lo:∀k,k<8->w.cell? ⟨B,o+3+k,none⟩=some (.int .i64 (c.lo.getD k 0))
 st:∀k,k<8->w.cell? ⟨B,o+11+k,none⟩=some (.int .i64 (c.st.getD k 0))
 fr:∀j,w.frozen? ⟨B,j,none⟩=false
def Mid.sees{w:TW}{u o:Nat}{t:TypeId}{e J:TV}{c:Bi}(h:Mid w u t e c.cells J)(b:e.length=o)(f:Dz c):Bn4 w u o c:=by
 have i:=f.len;refine⟨?_,?_,?_,?_,fun k g=>?_,fun k g=>?_,fun j=>h.free j⟩
 ·have:=h.cell b (j:=0) Ck;rw[Bvh]at this;rw[this];rfl
 ·rw[h.cell b (j:=1) Ck];rfl
 ·rw[h.cell b (j:=2) Ck];rfl
 ·rw[h.cell b (j:=19) Ck];exact Bpc f
 ·rw[Buc,h.cell b (j:=3+k) Ck];exact Bnm f g
 rw[Buc,h.cell b (j:=11+k) Ck];exact Bnl f g
def Mid.setLo{w:TW}{u o k:Nat}{j:TypeId}{e J:TV}{c:Bi}(h:Mid w u j e c.cells J)(f:e.length=o)(b:Dz c)(g:k<8)(v:Int):Mid (w.setCell (.a u (o+3+k)) (.i v)) u j e (⟨c.meth,c.pos,c.next,c.lo.set k v,c.st,c.h⟩:Bi).cells J:=by
 have l:=b.len;rw[<- Bfj b g,Buc];exact h.set f Ck _
def Mid.setSt{w:TW}{u o k:Nat}{j:TypeId}{e J:TV}{c:Bi}(h:Mid w u j e c.cells J)(f:e.length=o)(b:Dz c)(g:k<8)(v:Int):Mid (w.setCell (.a u (o+11+k)) (.i v)) u j e (⟨c.meth,c.pos,c.next,c.lo,c.st.set k v,c.h⟩:Bi).cells J:=by
 have l:=b.len;rw[<- Bfi b g,Buc];exact h.set f Ck _
def Mid.setH{w:TW}{u o:Nat}{j:TypeId}{e J:TV}{c:Bi}(h:Mid w u j e c.cells J)(f:e.length=o)(b:Dz c)(z:Int)(n:Nat)(g:z=n):Mid (w.setCell (.a u (o+19)) (.i z)) u j e (⟨c.meth,c.pos,c.next,c.lo,c.st,n⟩:Bi).cells J:=by
 have l:=b.len;rw[<- Bh3 b,g];exact h.set f Ck _
def Mid.setP{w:TW}{u o:Nat}{t:TypeId}{e J:TV}{c:Bi}(h:Mid w u t e c.cells J)(b:e.length=o)(n:Nat):Mid (w.setCell (.a u (o+1)) (.i (n:Int))) u t e (⟨c.meth,n,c.next,c.lo,c.st,c.h⟩:Bi).cells J:=h.set b (j:=1) (by simp[Bi.cells]) _
def Mid.setN{w:TW}{u o:Nat}{t:TypeId}{e J:TV}{c:Bi}(h:Mid w u t e c.cells J)(b:e.length=o)(n:Nat):Mid (w.setCell (.a u (o+2)) (.i (n:Int))) u t e (⟨c.meth,c.pos,n,c.lo,c.st,c.h⟩:Bi).cells J:=h.set b (j:=2) (by simp[Bi.cells]) _
def Ko{c:Bi}(h:Dz c)(v:Int):Dz (D8 v c):=by
 unfold D8
 split
 ·exact h
 exact⟨h.lo,by simp[h.st],by have:=h.h;simp;omega⟩
def Fc{c:Bi}(h:Dz c):Dz (Bv c).2:=by
 unfold Bv
 split
 ·exact h
 exact⟨h.lo,h.st,by have:=h.h;simp;omega⟩
def Tz{c:Bi}(h:Dz c)(n v:Int):Dz (Ep n v c):=by
 unfold Ep
 split
 ·exact h
 split
 ·exact h
 exact⟨by simp[h.lo],h.st,h.h⟩
def Xf{c:Bi}(h:Dz c)(n:Nat):Dz (Ki n c):=⟨h.lo,h.st,h.h⟩
def Boh{c:Bi}(h:Dz c)(v:Int)(n:Nat):Dz (N4 v n c):=⟨h.lo,by simp[N4,h.st],by simp[N4]⟩
def Ax:∀(k:Nat) {c:Bi},Dz c->Dz (Dt k c).2
 | 0,_,h=>h
 | k+1,_,h=>Ax k (Fc h)
def Sx:∀(k:Nat) (c:Bi),(Dt k c).1.length=k
 | 0,_=>rfl
 | k+1,c=>by simp[Dt,Sx k]
def Bf8:∀(l:TI) (i:Nat) {c:Bi},Dz c->Dz (Jy i l c)
 | [],_,_,h=>h
 | v::r,i,_,h=>Bf8 r (i+1) (Tz h i v)
def Bfo(m:Int):Dz ⟨m,0,0,Ig,Ig,0⟩:=⟨rfl,rfl,Hd⟩
def Ph(m:Int)(b:TI):Dz (Cn m b):=Bf8 b 0 (Bfo m)
def Bov{c:Bi}(h:Dz c)(op n:Int):Dz (Jk op n c):=by
 unfold Jk;by_cases b:op=0;·rw[Th b];exact Ko h _
 rw[Pk b];by_cases e:op=1;·rw[Th e];exact Ko h _
 rw[Pk e];by_cases f:op=2;·rw[Th f];exact Ko h _
 rw[Pk f];by_cases g:op=3;·rw[Th g];exact Tz (Fc h) _ _
 rw[Pk g];by_cases i:op=4;·rw[Th i];exact Fc h
 rw[Pk i];by_cases j:op=5;·rw[Th j];exact Ko (Ko (Fc h) _) _
 rw[Pk j];by_cases l:op=6;·rw[Th l];exact Ko (Ko (Fc (Fc h)) _) _
 rw[Pk l];exact h
def Bk5{c:Bi}(h:Dz c)(op n:Int):Dz (Gq op n c):=by
 unfold Gq;by_cases b:op=12
 ·rw[Th b]
  split
  ·exact Xf (Fc h) _
  exact Fc h
 rw[Pk b];by_cases e:op=13
 ·rw[Th e]
  split
  ·exact Xf (Fc (Fc h)) _
  exact Fc (Fc h)
 rw[Pk e];by_cases f:op=14
 ·rw[Th f]
  split
  ·exact Xf (Fc h) _
  exact Fc h
 rw[Pk f];exact Xf h _
def Kv(c:Bi)(v:Int)(B o:Nat)(t:TypeId)(g m:TV)(w:TW)(j:g.length=o)(b:Dz c)(h:Mid w B t g c.cells m):Calls prog 238 #[.q B o,.i v] w fun e p=>e=.r (.tuple #[])/\Mid p B t g (D8 v c).cells m/\Gr B w p:=by
 obtain⟨s,z,A,J,C,l,f⟩:=h.sees j b;have K:=b.h;have L:¬(c.h:Int)<0:=Ck;have N:=f (o+19);unfold D8;by_cases D:8<=c.h;·rw[Th D];have G:(8:Int)<=(c.h:Int):=Ck;clear s z A C l f;go_in;go_wp2;refine tb (.tuple #[]) (by simp[results,results238,go_sem]) ?_;exact⟨rfl,h,Gr.refl _ _⟩
 rw[Pk D];have G:¬(8:Int)<=(c.h:Int):=Ck;have g2:c.h<8:=Ck;have O:=l c.h g2;have Q:=f (o+11+c.h);have F:=h.setSt j b g2 v;have I:=F.setH j ⟨b.lo,by simp[b.st],b.h⟩ ((c.h:Int)+1) (c.h+1) Hd;clear s z A C l f F;go_in;go_wp2
 go_region
 all_goals
  go_wp2;go_end0;exact⟨rfl,I.drewN _,(((Gr.refl _ _).setB _).setB _).drew⟩
def Is(c:Bi)(B o:Nat)(t:TypeId)(f m:TV)(w:TW)(p:f.length=o)(g:Dz c)(h:Mid w B t f c.cells m):Calls prog 240 #[.q B o] w fun e s=>e=.r (.i (Bv c).1)/\Mid s B t f (Bv c).2.cells m/\Gr B w s:=by
 obtain⟨v,z,A,j,C,b,l⟩:=h.sees p g;have D:=g.h;have I:=l (o+19);obtain⟨J,K,cn,L,N,F⟩:=c;unfold Bv;simp only at j D b ⊢;cases F with
 | zero =>
  rw[Th rfl];clear v z A C b l;simp at j;go_in;go_wp2;go_ret;exact⟨rfl,h,Gr.refl _ _⟩
 | succ k =>
  rw[Pk Hd];have g2:k<8:=Ck;have O:=b k g2;have G:=h.setH p g (k:Int) k rfl;have e:k+1-1=k:=rfl;rw[e];clear e v z A C b l;simp at j;go_in;go_wp2;go_quiet (fail);go_wp2;go_ret;exact⟨rfl,G.drewN _,((Gr.refl _ _).setB _).drewN _⟩
def Bhf(c:Bi)(n:Int)(B o:Nat)(t:TypeId)(s A:TV)(w:TW)(C:s.length=o)(D:Dz c)(h:Mid w B t s c.cells A):Calls prog 239 #[.q B o,.i n] w fun e F=>e=.r (.i (Tt n c))/\F=w:=by
 obtain⟨f,g,j,l,b,m,p⟩:=h.sees C D;unfold Tt;by_cases v:n<0;·rw[Th v];clear f g j l b m p;go_in;go_wp2;go_ret;exact⟨rfl,rfl⟩
 rw[Pk v];by_cases z:8<=n;·rw[Th z];clear f g j l b m p;go_in;go_wp2;go_ret;exact⟨rfl,rfl⟩
 rw[Pk z];obtain⟨k,rfl⟩:=Brp (show 0<=n by omega);have G:=b k Ck;rw[Brx];clear f g j l b m p;go_in;go_wp2;go_ret;exact⟨rfl,rfl⟩
def Wb(c:Bi)(n v:Int)(B o:Nat)(t:TypeId)(g z:TV)(w:TW)(A:g.length=o)(C:Dz c)(h:Mid w B t g c.cells z):Calls prog 130 #[.q B o,.i n,.i v] w fun e D=>e=.r (.tuple #[])/\Mid D B t g (Ep n v c).cells z/\Gr B w D:=by
 obtain⟨j,l,m,p,b,s,f⟩:=h.sees A C;unfold Ep;by_cases F:n<0;·rw[Th F];clear j l m p b s f;go_in;go_wp2;go_end0;exact⟨rfl,h,Gr.refl _ _⟩
 rw[Pk F];by_cases G:8<=n;·rw[Th G];clear j l m p b s f;go_in;go_wp2;go_end0;exact⟨rfl,h,Gr.refl _ _⟩
 rw[Pk G];obtain⟨k,rfl⟩:=Brp (show 0<=n by omega);have J:=b k Ck;have K:=f (o+3+k);have I:=h.setLo A C (k:=k) Ck v;rw[Brx];clear j l m p b s f;go_in;go_wp2;go_end0;exact⟨rfl,I,(Gr.refl _ _).setB _⟩
def Bjv(c:Bi)(v:Int)(n:Nat)(B o:Nat)(t:TypeId)(g l:TV)(w:TW)(b:g.length=o)(j:Dz c)(h:Mid w B t g c.cells l):Calls prog 286 #[.q B o,.i v,.i (n:Int)] w fun e A=>e=.r (.tuple #[])/\Mid A B t g (N4 v n c).cells l/\Gr B w A:=by
 obtain⟨m,p,C,O,s,z,f⟩:=h.sees b j;have Q:=f (o+19);have I:=h.setH b j 0 0 rfl;have D:Dz ⟨c.meth,c.pos,c.next,c.lo,c.st,0⟩:=⟨j.lo,j.st,Hd⟩
 have F:=Kv _ v B o t g l _ b D I;have J:=Bc F;clear F m p C s z f;go_in;go_wp2_with fail;refine Qm (Ba J) ?_;rintro V ⟨G,K⟩;obtain⟨m,p,C,L,s,z,f⟩:=G.sees b (Ko D v);have Y:=f (o+2);have N:=G.setN b n;clear m p L s z f;go_wp2;go_end0;exact⟨rfl,N,(((Gr.refl _ _).setB _).trans K).setB _⟩
def Bgt(n:Int)(w:TW)(c:0<=n)(f:n<=255):Calls prog 237 #[.i n] w fun e b=>e=.r (.i (L5 n))/\b=w:=by
 unfold L5;by_cases h:127<n;·rw[Th h];go_in;go_wp2;go_ret;exact⟨rfl,rfl⟩
 rw[Pk h];go_in;go_wp2;go_ret;exact⟨rfl,rfl⟩
def Pr(v:Int):wrap32 v=Fy v:=by unfold Fy wrap32;omega
def Vh(v:Int):wrap64 (Fy v)=Fy v:=by unfold Fy wrap64;omega
def Bb4(op x y:Int)(w:TW):Calls prog 241 #[.i op,.i x,.i y] w fun e h=>e=.r (.tuple #[.i ((Ia op x y).getD 0),.bool (Ia op x y).isSome])/\h=w:=by
 unfold Ia;by_cases b:op=7;·rw[Th b];subst b;go_in;go_wp2;go_ret2;exact⟨by simp[Vh,Pr],rfl⟩
 rw[Pk b];by_cases c:op=8;·rw[Th c];subst c;clear b;go_in;go_wp2;go_ret2;exact⟨by simp[Vh,Pr],rfl⟩
 rw[Pk c];by_cases f:op=9;·rw[Th f];subst f;clear b c;go_in;go_wp2;go_ret2;exact⟨by simp[Vh,Pr],rfl⟩
 rw[Pk f];have j:(op==7)=false:=by simp[b]
 have l:(op==8)=false:=by simp[c]
 have m:(op==9)=false:=by simp[f]
 clear b c f;by_cases g:Fy y=0;·rw[Th g];rw[<- Pr]at g;go_in;go_wp2;go_ret2;exact⟨rfl,rfl⟩
 rw[Pk g];rw[<- Pr]at g;have p:(wrap32 y==0)=false:=by simp[g]
 go_in;go_wp2;go_ret2;exact⟨by simp[Vh,Pr],rfl⟩
def Bj2(c:Bi)(p op n:Int)(B o:Nat)(t:TypeId)(b f:TV)(w:TW)(g:b.length=o)(j:Dz c)(h:Mid w B t b c.cells f)(z:0<=op/\op<=6)(N:0<=n/\n<=255):Calls prog 188 #[.q B o,.agg #[.i p,.i op,.i n]] w fun e K=>e=.r (.tuple #[])/\Mid K B t b (Jk op n c).cells f/\Gr B w K:=by
 obtain⟨O,Q⟩:=N;have a1:=h.lt;rcases(show op=0\/op=1\/op=2\/op=3\/op=4\/op=5\/op=6 by omega) with rfl|rfl|rfl|rfl|rfl|rfl|rfl
 ·have F:=fun w=>Bgt n w O Q;have m:=Kv c (L5 n) B o t b f _ g j (h.alloc (O15 p 0 n));have e:Jk 0 n c=D8 (L5 n) c:=rfl;rw[e];clear z e;go_in;go_wp2_with (first|(go_at_call 237;refine(F _).mono ?_;rintro e v ⟨rfl,rfl⟩)|(go_at_call 238;refine m.mono ?_;rintro e v ⟨rfl,s,l⟩))
  go_end0;exact⟨rfl,s,((Gr.refl _ _).alloc _).trans l⟩
 ·have m:=Kv c 0 B o t b f _ g j (h.alloc (O15 p 1 n));have e:Jk 1 n c=D8 0 c:=rfl;rw[e];clear z e;go_in;go_wp2_with (go_at_call 238;refine m.mono ?_;rintro e v ⟨rfl,s,l⟩)
  go_end0;exact⟨rfl,s,((Gr.refl _ _).alloc _).trans l⟩
 ·have F:=Bhf c n B o t b f _ g j (h.alloc (O15 p 2 n));have m:=Kv c (Tt n c) B o t b f _ g j (h.alloc (O15 p 2 n));have e:Jk 2 n c=D8 (Tt n c) c:=rfl;rw[e];clear z e;go_in;go_wp2_with (first|(go_at_call 239;refine F.mono ?_;rintro e v ⟨rfl,rfl⟩)|(go_at_call 238;refine m.mono ?_;rintro e v ⟨rfl,s,l⟩))
  go_end0;exact⟨rfl,s,((Gr.refl _ _).alloc _).trans l⟩
 ·have m:=Is c B o t b f _ g j (h.alloc (O15 p 3 n));have A:=fun w h=>Wb (Bv c).2 n (Bv c).1 B o t b f w g (Fc j) h;have e:Jk 3 n c=Ep n (Bv c).1 (Bv c).2:=rfl;rw[e];have V:=Be w (O15 p 3 n);clear z e;go_in;go_wp2_with fail;refine Qm m ?_;rintro v ⟨s,l⟩;have Y:=l.own V Ck;have Z:=Bb Y 2;simp at Z;go_wp2_with fail;refine Qm (A _ s) ?_;rintro L ⟨C,D⟩;go_wp2;go_end0;exact⟨rfl,C,(((Gr.refl _ _).alloc _).trans l).trans D⟩
 ·have m:=Is c B o t b f _ g j (h.alloc (O15 p 4 n));have e:Jk 4 n c=(Bv c).2:=rfl;rw[e];clear z e;go_in;go_wp2_with fail;refine Qm m ?_;rintro v ⟨s,l⟩;go_wp2;go_end0;exact⟨rfl,s,((Gr.refl _ _).alloc _).trans l⟩
 ·have m:=Is c B o t b f _ g j (h.alloc (O15 p 5 n));have A:=fun w h=>Kv (Bv c).2 (Bv c).1 B o t b f w g (Fc j) h;have G:=fun w h=>Kv (D8 (Bv c).1 (Bv c).2) (Bv c).1 B o t b f w g (Ko (Fc j) _) h;have e:Jk 5 n c=D8 (Bv c).1 (D8 (Bv c).1 (Bv c).2):=rfl;rw[e];clear z e;go_in;go_wp2_with fail;refine Qm m ?_;rintro v ⟨s,l⟩;go_wp2_with fail;refine Qm (A _ s) ?_;rintro L ⟨C,D⟩;go_wp2_with fail;refine Qm (G _ C) ?_;rintro w3 ⟨I,J⟩;go_wp2;go_end0;exact⟨rfl,I,((((Gr.refl _ _).alloc _).trans l).trans D).trans J⟩
 have m:=Is c B o t b f _ g j (h.alloc (O15 p 6 n));have hQ:=fun w h=>Is (Bv c).2 B o t b f w g (Fc j) h;have A:=fun w h=>Kv (Bv (Bv c).2).2 (Bv c).1 B o t b f w g (Fc (Fc j)) h;have G:=fun w h=>Kv (D8 (Bv c).1 (Bv (Bv c).2).2) (Bv (Bv c).2).1 B o t b f w g (Ko (Fc (Fc j)) _) h;have e:Jk 6 n c=D8 (Bv (Bv c).2).1 (D8 (Bv c).1 (Bv (Bv c).2).2):=rfl;rw[e];clear z e;go_in;go_wp2_with fail;refine Qm m ?_;rintro v ⟨s,l⟩;go_wp2_with fail;refine Qm (hQ _ s) ?_;rintro L ⟨C,D⟩;go_wp2_with fail;refine Qm (A _ C) ?_;rintro w3 ⟨I,J⟩;go_wp2_with fail;refine Qm (G _ I) ?_;rintro w4 ⟨h4,a0⟩;go_wp2;go_end0;exact⟨rfl,h4,(((((Gr.refl _ _).alloc _).trans l).trans D).trans J).trans a0⟩
def Be7(c:Bi)(p op n:Int)(B o:Nat)(t:TypeId)(v K:TV)(w:TW)(j:v.length=o)(z:Dz c)(h:Mid w B t v c.cells K)(V:11<=op/\op<=14)(hn:0<=n):Calls prog 190 #[.q B o,.agg #[.i p,.i op,.i n]] w fun e w'=>e=.r (.tuple #[])/\Mid w' B t v (Gq op n c).cells K/\Gr B w w':=by
 have a3:=h.lt;obtain⟨k,rfl⟩:=Brp hn;have A:∀op:Int,(w.alloc (O15 p op (k:Int))).heap[w.heap.size]?=_:=fun op=>Be w (O15 p op (k:Int));rcases(show op=11\/op=12\/op=13\/op=14 by omega) with rfl|rfl|rfl|rfl
 ·have e:Gq 11 k c=Ki k c:=rfl;rw[e];have b:=h.alloc (O15 p 11 (k:Int));obtain⟨C,D,s2,F,G,I,l⟩:=h.sees j z;have f2:=l (o+2);have J:=(h.setN j k).alloc (O15 p 11 (k:Int));clear V e C D F G I l A;go_in;go_wp2;go_end0;exact⟨rfl,J,((Gr.refl _ _).setB _).alloc _⟩
 ·have m:=Is c B o t v K _ j z (h.alloc (O15 p 12 (k:Int)));have L:=A 12;have s:=Fc z;have e:Gq 12 k c=if (Bv c).1=0 then Ki k (Bv c).2 else (Bv c).2:=rfl
  rw[e];clear e;generalize Bv c=r at *;obtain⟨x,c1⟩:=r;simp only at m s ⊢;clear V A;by_cases f:x=0;·rw[Th f];subst f;go_in;go_wp2_with fail;refine Qm m ?_;rintro N ⟨b,g⟩;have O:=g.own L Ck;have Q:=Bb O 2;simp at Q;obtain⟨C,D,s2,F,G,I,l⟩:=b.sees j s;have f2:=l (o+2);have J:=b.setN j k;clear C D F G I l;go_wp2;go_end0;exact⟨rfl,J,(((Gr.refl _ _).alloc _).trans g).setB _⟩
  rw[Pk f];have a2:(x==0)=false:=by simp[f]
  clear f;go_in;go_wp2_with fail;refine Qm m ?_;rintro N ⟨b,g⟩;go_wp2;go_end0;exact⟨rfl,b,((Gr.refl _ _).alloc _).trans g⟩
 ·have m:=Is c B o t v K _ j z (h.alloc (O15 p 13 (k:Int)));have L:=A 13;have s:=Fc z;have Y:=fun w h=>Is (Bv c).2 B o t v K w j s h;have a1:=Fc s;have e:Gq 13 k c=if (Bv (Bv c).2).1<(Bv c).1 then Ki k (Bv (Bv c).2).2 else (Bv (Bv c).2).2:=rfl
  rw[e];generalize Bv c=r at *;obtain⟨y,c1⟩:=r;simp only at m s Y a1 ⊢;generalize Bv c1=r at *;obtain⟨x,c2⟩:=r;simp only at Y a1 ⊢;clear V A e;by_cases f:x<y;·rw[Th f];go_in;go_wp2_with fail;refine Qm m ?_;rintro N ⟨b,g⟩;go_wp2_with fail;refine Qm (Y _ b) ?_;rintro w2 ⟨Z,a0⟩;have O:=a0.own (g.own L Ck) Ck;have Q:=Bb O 2;simp at Q;obtain⟨C,D,s2,F,G,I,l⟩:=Z.sees j a1;have f2:=l (o+2);have J:=Z.setN j k;clear C D F G I l;go_wp2;go_end0;exact⟨rfl,J,((((Gr.refl _ _).alloc _).trans g).trans a0).setB _⟩
  rw[Pk f];go_in;go_wp2_with fail;refine Qm m ?_;rintro N ⟨b,g⟩;go_wp2_with fail;refine Qm (Y _ b) ?_;rintro w2 ⟨Z,a0⟩;go_wp2;go_end0;exact⟨rfl,Z,(((Gr.refl _ _).alloc _).trans g).trans a0⟩
 have m:=Is c B o t v K _ j z (h.alloc (O15 p 14 (k:Int)));have L:=A 14;have s:=Fc z;have e:Gq 14 k c=if (Bv c).1=0 then Ki k (Bv c).2 else (Bv c).2:=rfl
 rw[e];clear e;generalize Bv c=r at *;obtain⟨x,c1⟩:=r;simp only at m s ⊢;clear V A;by_cases f:x=0;·rw[Th f];subst f;go_in;go_wp2_with fail;refine Qm m ?_;rintro N ⟨b,g⟩;have O:=g.own L Ck;have Q:=Bb O 2;simp at Q;obtain⟨C,D,s2,F,G,I,l⟩:=b.sees j s;have f2:=l (o+2);have J:=b.setN j k;clear C D F G I l;go_wp2;go_end0;exact⟨rfl,J,(((Gr.refl _ _).alloc _).trans g).setB _⟩
 rw[Pk f];have a2:(x==0)=false:=by simp[f]
 clear f;go_in;go_wp2_with fail;refine Qm m ?_;rintro N ⟨b,g⟩;go_wp2;go_end0;exact⟨rfl,b,((Gr.refl _ _).alloc _).trans g⟩
def Box(n:Nat)(j:n<=1000)(w:TW):(Instr.makeSlice 26 (.i (n:Int)) (.i (n:Int))).run prog w=.ok (.s (.p w.heap.size) n n) (w.alloc (.cells (List.replicate n (Value.int .i64 0)).toArray 3)):=by
 obtain⟨b,c,f,g,h⟩:=Bsa Tryz.infoInt;have:=run_make w 26 3 b _ Bta c f .i64 .i64 (n:Int) (n:Int) Ck (Bu7 _) (by rw[h];omega) Ck;rw[g]at this;have e:madeCells (Value.int .i64 0).cells (n*1)=(List.replicate n (Value.int .i64 0)).toArray:=by
  apply Array.ext
  ·simp[madeCells]
  intro i l m;simp[madeCells,Value.cells,Nat.mod_one]
 rw[Brx,e]at this;exact this
def Bau:∀(k:Nat) (c:Bi),Dt (k+1) c=((Bv (Dt k c).2).1::(Dt k c).1,(Bv (Dt k c).2).2)
 | 0,c=>by simp[Dt]
 | k+1,c=>by
  have h:=Bau k (Bv c).2;rw[Dt,h,Dt];simp
def Bm6{w:TW}{u n:Nat}{z:TI}(c:z.length=n)(f:n<=1000){t:Nat}(e:u<=t)(h:w.heap[t]?=some (.cells (z.map (Value.int .i64)).toArray 3 (0,0))):De w u (.s (.p t) n n) z:=by
 refine⟨Hd,.inr ⟨t,n,_,by rw[c],e,h,Ck,Pf,by simp[c],?_⟩⟩;simp only[Bw7];rw[Bs7 Hd]
def Boj{k:Nat}{l v:TX}{e:TV}:((List.replicate (k+1) l++e).toArray).setIfInBounds k v=(List.replicate k l++(v::e)).toArray:=by
 rw[Bvz]
 congr 1
 rw[Bue,Bsi,Bs9 _ _ Hd];simp
def Bp1{k:Nat}{l:TX}{e:TV}:((List.replicate (k+1) l++e).toArray)[k]?=some l:=by
 rw[Buq,Br6 Hd];simp
def Be4(c:Bi)(la:TA)(n lc:Nat)(B o:Nat)(t:TypeId)(b f:TV)(w:TW)(ho:b.length=o)(hf:Dz c)(J:n<=1000)(h:Mid w B t b c.cells f):Calls prog 248 #[.q B o,.s la n lc] w fun e m=>e=.r (.s (.p w.heap.size) n n)/\De m w.heap.size (.s (.p w.heap.size) n n) (Dt n c).1/\Mid m B t b (Dt n c).2.cells f/\Gr B w m:=by
 have K:=fun w=>Box n J w;have a4:=h.lt;have a3:w.heap.size≠B:=Ck;have v:=h.alloc (.cells (List.replicate n (Value.int .i64 0)).toArray 3);have z:=Be w (.cells (List.replicate n (Value.int .i64 0)).toArray 3);have g:=fun j w h=>Is (Dt j c).2 B o t b f w ho (Ax j hf) h;have L:=fun j=>Bau j c;have N:=fun j=>Sx j c;have O:=Bc g;have Q:=Bc L;have V:=Bc N;clear g L N h;go_in;go_wp2
 go_loopw [6] (fun i wr=>∃(k j:Nat),k+j=n/\i=.i ((k:Int)-1)/\wr.heap[w.heap.size]?=some (.cells (List.replicate k (Value.int .i64 0)++(Dt j c).1.map (Value.int .i64)).toArray 3 (0,0))/\Mid wr B t b (Dt j c).2.cells f/\Gr B w wr)
  (fun i _=>(intOf i+1).toNat)
 case atStart=>exact⟨n,0,Ck,rfl,by simpa[Dt] using z,v,(Gr.refl _ _).alloc _⟩
 case round=>
  obtain⟨k,j,a5,rfl,A,C,D⟩:=hrel;cases k with
  | zero =>
   have hj:j=n:=Ck;subst hj;clear K v z;go_wp2;go_ret;refine⟨rfl,Bm6 (Ba V j) J (Bru _) (by simpa using A),C,D⟩
  | succ k =>
   have g:=Ba O j _ C;have e1:((k+1:Nat):Int)-1=(k:Int):=Ck;have a6:=D.size;clear K v z C;go_wp2_with fail;refine Qm g ?_;rintro w1 ⟨Y,F⟩;have l:=F.own A a3;have G:=Bt (i:=k) l (.i (Bv (Dt j c).2).1);rw[Boj]at G;have y0:=Bb l k;have y1:=Bk l k;rw[Bp1]at y0;have a7:(k:Int)<(n:Int):=Ck;have Z:Mid (w1.setCell (.a w.heap.size k) (.i (Bv (Dt j c).2).1)) B t b (Bv (Dt j c).2).2.cells f:=by
    unfold Mid;rw[Brk _ _ _ _ (by simpa using (show B≠w.heap.size by omega))];exact Y
   have HG:=Bc (D.trans F);have a0:=Ba Q j;have I:=Bc a0;have a1:=Bc Z;have a2:=Bc G;clear g O Q V Y F A l Z a0 G;generalize Bv (Dt j c).2=pv at *;obtain⟨x,c2⟩:=pv;simp only at I a1 a2 ⊢;go_wp2;go_roundw
   case rel=>exact⟨k,j+1,Ck,rfl,by rw[Ba I];exact Ba a2,by rw[Ba I];exact Ba a1,(Ba HG).set (.inl (Bru _)) _⟩
   case measure=>simp[intOf]
def Tryz.infoCall:(prog.info? 152).map (·.size)=some 20:=Lt
def Bar{u b:Nat}{v w:TW}(c:Below u v w)(h:u<=b)(e:Array Value):Below u v (w.setRow b e) :=
 ⟨c.os,c.tape,c.output,by rw[Bwq];exact c.size,fun k f=>(Bwa w b k e Ck).trans (c.block k f)⟩
def Bfv{w:TW}{u:Nat}{G b:Array Value}{j:TypeId}(c:w.heap[u]?=some (.cells G j (0,0))):(w.setRow u b).heap[u]?=some (.cells b j (0,0)):=Bw6 w u G b j (0,0) c
def Bp0{w:TW}{u k:Nat}{G:Array Value}(h:k≠u):(w.setRow u G).heap[k]?=w.heap[k]?:=Bwa w u k G h
theorem Wt{w:World}{u:Nat}{a:Option Addr}{n t:Nat}{z:List Int}(h:De w u (.slice a n t) z)(m:0<z.length):∃g,a=some ⟨g,0,none⟩/\g<w.heap.size/\∀k (e:k<z.length),w.cell? ⟨g,k,none⟩=some (.int .i64 z[k]):=by
 obtain⟨p,⟨_,q⟩|⟨g,s,v,f,_,i,A,_,B,j⟩⟩:=h
 ·omega
 simp only[Value.slice.injEq]at f;refine⟨g,f.1,Sp i,fun k e=>?_⟩;have:=congrArg (·[k]?) j;simp only[Bs0,Bw7,Th e,Bsf,Brl e,Option.map_some]at this;rw[Bb i];simpa using this
def Bne(k:Nat)(c:Bi):Jy k [] c=c:=rfl
theorem Xw(m:Int)(F:Option Addr)(vc:Nat)(b:List Int)(bb:Nat)(w:World)(hl:b.length<=1000)(hv:De w bb (.slice F b.length vc) b):Calls prog 84 #[.int .i64 m,.slice F b.length vc] w fun e w'=>e=.returned (.agg (Cn m b).cells.toArray)/\Below w.heap.size w w':=by
 have G:Below w.heap.size w (((w.alloc (O26 0 0 0 0 0 0 0 0 0 0 0 0 0 0 0 0 0 0 0 0)).alloc (O26 0 0 0 0 0 0 0 0 0 0 0 0 0 0 0 0 0 0 0 0)).setRow (w.heap.size+1) #[.int .i64 m,.int .i64 0,.int .i64 0,.int .i64 0,.int .i64 0,.int .i64 0,.int .i64 0,.int .i64 0,.int .i64 0,.int .i64 0,.int .i64 0,.int .i64 0,.int .i64 0,.int .i64 0,.int .i64 0,.int .i64 0,.int .i64 0,.int .i64 0,.int .i64 0,.int .i64 0]):=Bar (Bu _ _ _) Ck _;have I:(((w.alloc (O26 0 0 0 0 0 0 0 0 0 0 0 0 0 0 0 0 0 0 0 0)).alloc (O26 0 0 0 0 0 0 0 0 0 0 0 0 0 0 0 0 0 0 0 0)).setRow (w.heap.size+1) #[.int .i64 m,.int .i64 0,.int .i64 0,.int .i64 0,.int .i64 0,.int .i64 0,.int .i64 0,.int .i64 0,.int .i64 0,.int .i64 0,.int .i64 0,.int .i64 0,.int .i64 0,.int .i64 0,.int .i64 0,.int .i64 0,.int .i64 0,.int .i64 0,.int .i64 0,.int .i64 0]).heap[w.heap.size]?=some (O26 0 0 0 0 0 0 0 0 0 0 0 0 0 0 0 0 0 0 0 0):=(Bp0 Ck).trans (Cb _ _ _);have J:Mid (((w.alloc (O26 0 0 0 0 0 0 0 0 0 0 0 0 0 0 0 0 0 0 0 0)).alloc (O26 0 0 0 0 0 0 0 0 0 0 0 0 0 0 0 0 0 0 0 0)).setRow (w.heap.size+1) #[.int .i64 m,.int .i64 0,.int .i64 0,.int .i64 0,.int .i64 0,.int .i64 0,.int .i64 0,.int .i64 0,.int .i64 0,.int .i64 0,.int .i64 0,.int .i64 0,.int .i64 0,.int .i64 0,.int .i64 0,.int .i64 0,.int .i64 0,.int .i64 0,.int .i64 0,.int .i64 0]) (w.heap.size+1) 152 [] (⟨m,0,0,Ig,Ig,0⟩:Bi).cells []:=Bfv (Bx _ _ _);have l:Hid (Jy 0 (b.drop 0) ⟨m,0,0,Ig,Ig,0⟩=Cn m b):=rfl;generalize Cn m b=N at *;have z:=fun c n v wr h s=>Wb c n v (w.heap.size+1) 0 152 [] [] wr rfl s h;go_in;go_wp2_with (refine wpList_store_row Ls 152 (.tmp 5) (.tmp 9) Ls (w.heap.size+1) #[.int .i64 m,.int .i64 0,.int .i64 0,.int .i64 0,.int .i64 0,.int .i64 0,.int .i64 0,.int .i64 0,.int .i64 0,.int .i64 0,.int .i64 0,.int .i64 0,.int .i64 0,.int .i64 0,.int .i64 0,.int .i64 0,.int .i64 0,.int .i64 0,.int .i64 0,.int .i64 0] Ls Ls 152 _ (Bx w _ _) Tryz.infoCall Ls (by simp[Value.oneCell']) ?_)
 generalize (((w.alloc (O26 0 0 0 0 0 0 0 0 0 0 0 0 0 0 0 0 0 0 0 0)).alloc (O26 0 0 0 0 0 0 0 0 0 0 0 0 0 0 0 0 0 0 0 0)).setRow (w.heap.size+1) #[.int .i64 m,.int .i64 0,.int .i64 0,.int .i64 0,.int .i64 0,.int .i64 0,.int .i64 0,.int .i64 0,.int .i64 0,.int .i64 0,.int .i64 0,.int .i64 0,.int .i64 0,.int .i64 0,.int .i64 0,.int .i64 0,.int .i64 0,.int .i64 0,.int .i64 0,.int .i64 0])=w1 at *
 go_loopw [12] (fun i wr=>∃(k:Nat) (c:Bi),k<=b.length/\i=.int .i64 (k:Int)/\Hid (Jy k (b.drop k) c=N)/\Dz c/\Mid wr (w.heap.size+1) 152 [] c.cells []/\wr.heap[w.heap.size]?=some (O26 0 0 0 0 0 0 0 0 0 0 0 0 0 0 0 0 0 0 0 0)/\Below w.heap.size w wr)
  (fun i _=>b.length-(intOf i).toNat)
 case atStart=>exact⟨0,_,Ck,rfl,l,Bfo m,J,I,G⟩
 case round=>
  clear l J I G;obtain⟨k,c,hk,rfl,l,s,t,A,f⟩:=hrel;by_cases K:k<b.length
  ·obtain⟨g,hg,a0,L⟩:=Wt hv Ck;have O:=L k K;have y1:wr.cell? ⟨g,k,none⟩=some (.int .i64 b[k]):=by rw[f.cell (p:=⟨g,k,none⟩) a0];exact O
   have Q:=z c (k:Int) b[k] wr t s;have a1:=Tz s (k:Int) b[k];have V:b.drop k=b[k]::b.drop (k+1):=by rw[Brj K]
   have a2:Hid (Jy (k+1) (b.drop (k+1)) (Ep (k:Int) b[k] c)=N):=by
    have:=Ba l;rw[V]at this;exact this
   have b0:(k:Int)<(b.length:Int):=Ck;have a3:=f.size;generalize b[k]=x at *;subst hg;clear l V O L z t;go_wp2_with fail;refine Q.mono ?_;rintro e w2 ⟨rfl,h2,q⟩;have a4:=q.own A Ck;have a5:Below w.heap.size w w2:=⟨(World.grownBy.os q).trans f.os,(World.grownBy.tape q).trans f.tape,(World.grownBy.output q).trans f.output,Br5 f.size q.size,fun j Y=>(q.blk (Brs Y a3) Ck).trans (f.block j Y)⟩;clear q Q;go_wp2;go_roundw
   case rel=>exact⟨k+1,_,Ck,Mg,a2,a1,h2,a4,a5⟩
   case measure=>simp[intOf];omega
  have a6:k=b.length:=Ck;subst a6;have B:=Ba l;rw[List.drop_length,Bne]at B;have a7:wr.heap[w.heap.size+1]?=some (.cells c.cells.toArray 152 (0,0)):=by
   have:=t;unfold Mid at this;simpa using this
  have C:(prog.info? 152).map (·.size)=some c.cells.toArray.size:=by rw[Tryz.infoCall];simp[s.len]
  have hz:20=c.cells.toArray.size:=by simp[s.len]
  have a8:=Bui (Nl c);have HN:=Bc B;clear B l z t;generalize Z:c.cells.toArray=D at *;have a9:=Bc Z;clear Z;go_wp2_with (first|(refine Bsj Ls 152 (.tmp 5) Ls (w.heap.size+1) Ls 152 D (0,0) _ a7 Bu4 Ls C ?_)|(refine wpList_store_row Ls 152 (.tmp 4) (.tmp 21) Ls w.heap.size D Ls Ls 152 _ A C hz a8 ?_))
  refine Wf (results_cell_row results84 _ _ w.heap.size 152 D (0,0) _ Ls (Bfv A) Bu4 Ls C) rfl ?_;exact⟨by rw[<- Ba a9,Ba HN],Bar f (Bru _) _⟩
def ocells:List (Int × List Int)->TV->List Value
 | x::r,v::vs=>.int .i64 x.1::v::ocells r vs
 | _,_=>[]
def Zt:∀(l:List (Int×List Int)) (b:TV),b.length=l.length->(ocells l b).length=l.length*2
 | [],[],_=>rfl
 | [],_::_,h=>by simp at h
 | _::_,[],h=>by simp at h
 | x::r,v::b,h=>by simp only[ocells,Br7];rw[Zt r b (by simpa using h)];omega
def Ba3:∀(l:List (Int×List Int)) (c:TV),c.length=l.length->∀i,i<l.length->(ocells l c)[i*2]?=some (.i (l.getD i (0,[])).1)/\(ocells l c)[i*2+1]?=some (c.getD i (.s none 0 0))
 | [],_,_,i,h=>by simp at h
 | x::r,[],h,_,_=>by simp at h
 | x::r,v::c,h,0,_=>⟨rfl,rfl⟩
 | x::r,v::c,h,i+1,hi=>by
  obtain⟨a,b⟩:=Ba3 r c (by simpa using h) i (by simpa using hi);rw[show (i+1)*2=i*2+1+1 by omega,ocells];exact⟨by simpa using a,by simpa using b⟩
def Vs:∀(l:List (Int×List Int)) (b:TV),b.length=l.length->∀(x:Int×List Int) (v:TX),ocells (l++[x]) (b++[v])=ocells l b++[.i x.1,v]
 | [],[],_,_,_=>rfl
 | [],_::_,h,_,_=>by simp at h
 | _::_,[],h,_,_=>by simp at h
 | y::r,u::b,h,x,v=>by simp only[Bs5,ocells];rw[Vs r b (by simpa using h)]
def Zr:∀(l:List (Int×List Int)) (b:TV),b.length=l.length->∀(i:Nat) (c:Int) (e:TI) (v:TX),(l.getD i (0,[])).1=c->i<l.length->(ocells l b).set (i*2+1) v=ocells (l.set i (c,e)) (b.set i v)
 | [],_,_,i,_,_,_,_,h=>by simp at h
 | x::r,[],h,_,_,_,_,_,_=>by simp at h
 | x::r,u::b,_,0,c,e,v,hc,_=>by
  have:x.1=c:=hc;simp[ocells,this]
 | x::r,u::b,h,i+1,c,e,v,hc,hi=>by
  rw[show (i+1)*2+1=(i*2+1)+1+1 by omega];simp only[ocells,Bsp];rw[Zr r b (by simpa using h) i c e v (by simpa using hc) (by simpa using hi)]
def Xv:∀(l c:List (Int×List Int)) (b:TV),l.map Prod.fst=c.map Prod.fst->ocells l b=ocells c b
 | [],[],_,_=>rfl
 | [],_::_,_,h=>by simp at h
 | _::_,[],_,h=>by simp at h
 | x::r,y::q,[],_=>rfl
 | x::r,y::q,v::b,h=>by
  simp only[Bsw,List.cons.injEq]at h;simp only[ocells];rw[h.1,Xv r q b h.2]
structure Cw where
 B:Nat
 ob:Nat
 w0:World
 wE:World
 ca:Option Addr
 cn:Nat
 cc:Nat
 ma:Option Addr
 mc:Nat
 tg:Nat
 tc:Nat
 ya:Option Addr
 yc:Nat
 bm:Nat
 bf:Nat
 T:List Int
 lf:List (Value × List (Int × Int))
 lms:List (Rd.Mth × Ex)
 entry:Int
 ia:Option Addr
 ic:Nat
 ins:List Int
 room:Int
 depth:Int
 fuel:Int
def Cw.E (k:Cw):Dn:=⟨k.T,k.lf.map Prod.snd,k.lms.map Prod.fst,k.ins,k.room,k.depth⟩
def Ft (w:TW)(a:TA)(l:TI):Prop:=∀i,i<l.length->∃g o,a=some ⟨g,o,none⟩/\g<w.heap.size/\w.cell? ⟨g,o+i,none⟩=some (.int .i64 (l.getD i 0))
def Ft.below{w s:TW}{a:TA}{z:TI}(h:Ft w a z)(b:Bl w s):Ft s a z:=fun i f=>by
 obtain⟨g,o,e,c,j⟩:=h i f;exact⟨g,o,e,Brs c b.size,by rw[b.cell (p:=.a g (o+i)) c];exact j⟩
structure Cw.Ok(k:Cw):Prop where
 tr:Dy k.w0 k.tg k.T
 tl:k.T.length<=1000
 fl:Lx k.w0 k.bf (.slice k.ya k.lf.length k.yc) k.lf
 f14:k.lf.length<=14
 ff:∀p∈k.lf,p.2.length<=10
 ms:Eb k.wE k.bm (.slice k.ma k.lms.length k.mc) k.lms
 ml:k.lms.length<=1000
 cd:∀p∈k.lms,p.1.code.length<=1000/\∀x∈p.1.code,0<=x/\x<=255
 ps:∀p∈k.lms,p.1.params.length<=10
 hn:∀p∈k.lms,p.1.handlers.length<=1000/\∀h∈p.1.handlers,0<=h.target/\h.target<=1000
 ins:Ft k.wE k.ia k.ins
 il:k.ins.length<=1000
 dep:1<=k.depth/\k.depth<=12
 rm:0<=k.room/\k.room<=30
 fu:0<=k.fuel/\k.fuel<=3000
 tB:k.tg≠k.B/\k.tg≠k.ob
 fB:∀j,(Value.slice k.ya k.lf.length k.yc).ownBlock=some j->j≠k.B/\j≠k.ob
 fy:∀p∈k.lf,∀j,p.1.ownBlock=some j->j≠k.B/\j≠k.ob
 sz:k.wE.heap.size<=k.w0.heap.size
 Bs:k.B<k.w0.heap.size/\k.ob<k.w0.heap.size/\k.wE.heap.size<=k.B/\k.wE.heap.size<=k.ob
structure Dd where
 oa:Option Addr
 oc:Nat
 wa:Option Addr
 wc:Nat
 xa:Option Addr
 xc:Nat
 ov:List Value
def Iv (k:Cw)(read ol:Nat)(v:Dd):List Value :=
 [.slice k.ca k.cn k.cc,.slice k.ma k.lms.length k.mc,.slice (some ⟨k.tg,0,none⟩) k.T.length k.tc,.slice k.ya k.lf.length k.yc,.int .i64 k.entry,.slice k.ia k.ins.length k.ic,.int .i64 k.room,.int .i64 k.depth,.int .i64 k.fuel,.int .i64 (read:Int),.slice v.oa ol v.oc,.int .i64 k.room]
def Gy (v:Dd)(wl xl:Nat)(ended:Bool)(status value:Int)(steps:Nat):List Value :=
 [.slice v.wa wl v.wc,.bool ended,.slice v.xa xl v.xc,.int .i64 status,.int .i64 value,.int .i64 (steps:Int)]
def Ij(k:Cw)(r o:Nat)(v:Dd):(Iv k r o v).length=12:=rfl
def Lc(v:Dd)(b c:Nat)(e:Bool)(s x:Int)(f:Nat):(Gy v b c e s x f).length=6:=rfl
structure Dq(k:Cw)(O:List (Int × List Int))(W:List Bi)(X:List Int)(v:Dd)(w:World):Prop where
 objs:w.ownsRow k.wE.heap.size 215 2 (.slice v.oa O.length v.oc) O.length (ocells O v.ov)
 ovl:v.ov.length=O.length
 obk:∀j,(Value.slice v.oa O.length v.oc).ownBlock=some j->j=k.ob\/k.w0.heap.size<=j
 flds:∀i,i<O.length->De w k.w0.heap.size (v.ov.getD i (.slice none 0 0)) (O.getD i (0,[])).2
 wait:w.ownsRow k.w0.heap.size 152 20 (.slice v.wa W.length v.wc) W.length (W.flatMap Bi.cells)
 wwf:∀c∈W,Dz c
 out:De w k.w0.heap.size (.slice v.xa X.length v.xc) X
 nd:((Value.slice v.xa X.length v.xc::v.ov).filterMap Value.ownBlock).Nodup
 keep:∀j,j<k.w0.heap.size->j≠k.B->j≠k.ob->w.heap[j]?=k.w0.heap[j]?
 low:Below k.wE.heap.size k.wE w
 szs:k.w0.heap.size<=w.heap.size
structure Bw(k:Cw)(S:Bo)(v:Dd)(w:World):Prop where
 blk:Mid w k.B 156 (Iv k S.read S.objs.length v) S.now.cells (Gy v S.wait.length S.out.length S.ended S.status S.value S.steps)
 wf:Dz S.now
 rows:Dq k S.objs S.wait S.out v w
def Fl{w:TW}{u b t n:Nat}{j:TypeId}{l:TX}{e cs:TV}{B:Nat}{m:Nat×Nat}(h:w.ownsRow u b t l n e)(p:w.heap[B]?=some (.cells cs.toArray j m))(q:b≠j):∀c,l.ownBlock=some c->c≠B:=by
 intro c f s;obtain⟨_,⟨rfl,_⟩|⟨g,v,z,rfl,_,i,_⟩⟩:=h
 ·simp[Value.ownBlock]at f
 simp only[Value.ownBlock,Option.some.injEq]at f;subst f s;rw[p]at i;simp only[Option.some.injEq,Obj.cells.injEq]at i;exact q i.2.1.symm
def Fz{w s:TW}{u b t n:Nat}{l:TX}{e:TV}(h:w.ownsRow u b t l n e)(i:∀j,l.ownBlock=some j->s.heap[j]?=w.heap[j]?):s.ownsRow u b t l n e:=by
 obtain⟨c,m|⟨g,p,q,f,v,z,r⟩⟩:=h
 ·exact⟨c,.inl m⟩
 exact⟨c,.inr ⟨g,p,q,f,v,(i g (by rw[f];rfl)).trans z,r⟩⟩
def Dq.gr{k:Cw}{A:List (Int×List Int)}{p:List Bi}{z:TI}{v:Dd}{w s:TW}(h:Dq k A p z v w)(F:k.Ok){e:TV}(G:w.heap[k.B]?=some (.cells e.toArray 156 (0,0)))(f:Gr k.B w s):Dq k A p z v s:=by
 have l:∀{b c q n:Nat}{u:TX}{t:TV},w.ownsRow b c q u n t->c≠156->s.ownsRow b c q u n t:=fun m I =>
  Fz m (fun j g=>f.blk (m.lt j g).2 (Fl m G I j g))
 refine⟨l h.objs Fm,h.ovl,h.obk,fun i J=>l (h.flds i J) Fm,l h.wait Fm,h.wwf,l h.out Fm,h.nd,fun j C D K=>?_,?_,Br5 h.szs f.size⟩
 ·rw[f.blk (Brs C h.szs) D];exact h.keep j C D K
 exact⟨(World.grownBy.os f).trans h.low.os,(World.grownBy.tape f).trans h.low.tape,(World.grownBy.output f).trans h.low.output,Br5 h.low.size f.size,
  fun j g=>(f.blk (Brs g h.low.size) (by have:=F.Bs;omega)).trans (h.low.block j g)⟩
def Bw.now{k:Cw}{S:Bo}{v:Dd}{w s:TW}(h:Bw k S v w)(b:k.Ok)(e:Gr k.B w s){c:Bi}(f:Dz c) (g:Mid s k.B 156 (Iv k S.read S.objs.length v) c.cells (Gy v S.wait.length S.out.length S.ended S.status S.value S.steps)):Bw k (S.withNow c) v s :=
 ⟨g,f,h.rows.gr b h.blk e⟩
structure Bpp(k:Cw)(S:Bo)(v:Dd)(w:World):Prop where
 c0:w.cell? ⟨k.B,0,none⟩=some (.slice k.ca k.cn k.cc)
 c1:w.cell? ⟨k.B,1,none⟩=some (.slice k.ma k.lms.length k.mc)
 c2:w.cell? ⟨k.B,2,none⟩=some (.slice (some ⟨k.tg,0,none⟩) k.T.length k.tc)
 c3:w.cell? ⟨k.B,3,none⟩=some (.slice k.ya k.lf.length k.yc)
 c4:w.cell? ⟨k.B,4,none⟩=some (.int .i64 k.entry)
 c5:w.cell? ⟨k.B,5,none⟩=some (.slice k.ia k.ins.length k.ic)
 c6:w.cell? ⟨k.B,6,none⟩=some (.int .i64 k.room)
 c7:w.cell? ⟨k.B,7,none⟩=some (.int .i64 k.depth)
 c8:w.cell? ⟨k.B,8,none⟩=some (.int .i64 k.fuel)
 c9:w.cell? ⟨k.B,9,none⟩=some (.int .i64 (S.read:Int))
 c10:w.cell? ⟨k.B,10,none⟩=some (.slice v.oa S.objs.length v.oc)
 c11:w.cell? ⟨k.B,11,none⟩=some (.int .i64 k.room)
 c12:w.cell? ⟨k.B,12,none⟩=some (.int .i64 S.now.meth)
 c13:w.cell? ⟨k.B,13,none⟩=some (.int .i64 (S.now.pos:Int))
 c14:w.cell? ⟨k.B,14,none⟩=some (.int .i64 (S.now.next:Int))
 c32:w.cell? ⟨k.B,32,none⟩=some (.slice v.wa S.wait.length v.wc)
 c33:w.cell? ⟨k.B,33,none⟩=some (.bool S.ended)
 c34:w.cell? ⟨k.B,34,none⟩=some (.slice v.xa S.out.length v.xc)
 c35:w.cell? ⟨k.B,35,none⟩=some (.int .i64 S.status)
 c36:w.cell? ⟨k.B,36,none⟩=some (.int .i64 S.value)
 c37:w.cell? ⟨k.B,37,none⟩=some (.int .i64 (S.steps:Int))
 fr:∀j,w.frozen? ⟨k.B,j,none⟩=false
def Mid.tail{w:TW}{u:Nat}{j:TypeId}{e J b:TV}(h:Mid w u j e J b):Mid w u j (e++J) b []:=by
 unfold Mid at h ⊢;rw[h];simp
def Mid.untail{w:TW}{u:Nat}{j:TypeId}{e J b:TV}(h:Mid w u j (e++J) b []):Mid w u j e J b:=by
 unfold Mid at h ⊢;rw[h];simp
def Mid.front{w:TW}{u:Nat}{j:TypeId}{e J b:TV}(h:Mid w u j e J b):Mid w u j [] e (J++b):=by
 unfold Mid at h ⊢;rw[h];simp
def Mid.unfront{w:TW}{u:Nat}{j:TypeId}{e J b:TV}(h:Mid w u j [] e (J++b)):Mid w u j e J b:=by
 unfold Mid at h ⊢;rw[h];simp
def Bw.sees{k:Cw}{S:Bo}{v:Dd}{w:TW}(h:Bw k S v w):Bpp k S v w:=by
 have f:=h.blk.front;have g:=h.blk.tail;have i:(Iv k S.read S.objs.length v++S.now.cells).length=32:=by rw[Ws,Ij,h.wf.len]
 have b:∀j,j<12->w.cell? (.a k.B j)=(Iv k S.read S.objs.length v)[j]?:=fun j c=>by
  have:=f.cell (o:=0) (j:=j) rfl (by rw[Ij];exact c);rw[Brz]at this;exact this
 have tl:∀j,j<6->w.cell? (.a k.B (32+j))=(Gy v S.wait.length S.out.length S.ended S.status S.value S.steps)[j]?:=fun j c=>g.cell i (by rw[Lc];exact c);have e:=h.blk.sees (o:=12) rfl h.wf;exact⟨b 0 Ck,b 1 Ck,b 2 Ck,b 3 Ck,b 4 Ck,b 5 Ck,b 6 Ck,b 7 Ck,b 8 Ck,b 9 Ck,b 10 Ck,b 11 Ck,e.m,e.p,e.n,
  tl 0 Ck,tl 1 Ck,tl 2 Ck,tl 3 Ck,tl 4 Ck,tl 5 Ck,fun j=>h.blk.free j⟩
def Bw.setPost{k:Cw}{S:Bo}{v:Dd}{w:TW}(h:Bw k S v w)(f:k.Ok){j:Nat}(g:j<6)(u:TX){b:Bo}{c:Dd}(e:b.now=S.now) (i:Iv k b.read b.objs.length c=Iv k S.read S.objs.length v)(l:(Gy v S.wait.length S.out.length S.ended S.status S.value S.steps).set j u=Gy c b.wait.length b.out.length b.ended b.status b.value b.steps) (m:Dq k b.objs b.wait b.out c w):Bw k b c (w.setCell (.a k.B (32+j)) u):=by
 have p:(Iv k S.read S.objs.length v++S.now.cells).length=32:=by rw[Ws,Ij,h.wf.len]
 refine⟨?_,by rw[e];exact h.wf,m.gr f h.blk ((Gr.refl _ _).setB _)⟩;rw[i,e,<- l];exact(h.blk.tail.set p (by rw[Lc];exact g) u).untail
def Bw.setPre{k:Cw}{S:Bo}{v:Dd}{w:TW}(h:Bw k S v w)(f:k.Ok){j:Nat}(g:j<12)(u:TX){b:Bo}{c:Dd}(e:b.now=S.now) (i:(Iv k S.read S.objs.length v).set j u=Iv k b.read b.objs.length c)(l:Gy c b.wait.length b.out.length b.ended b.status b.value b.steps=Gy v S.wait.length S.out.length S.ended S.status S.value S.steps) (m:Dq k b.objs b.wait b.out c w):Bw k b c (w.setCell (.a k.B j) u):=by
 refine⟨?_,by rw[e];exact h.wf,m.gr f h.blk ((Gr.refl _ _).setB _)⟩;have:=h.blk.front.set (o:=0) (j:=j) rfl (by rw[Ij];exact g) u;rw[Brz]at this;rw[<- i,e,l];exact this.unfront
def Bla{k:Cw}{w:TW}{e J:TV}{c:Bi}(f:Mid w k.B 156 e c.cells J)(h:e.length=12)(i:Dz c)(l:k.Ok){j:Nat}(m:j<12)(u:TX){Y:Bo}{b:Dd}(g:Y.now=c) (p:e.set j u=Iv k Y.read Y.objs.length b)(q:Gy b Y.wait.length Y.out.length Y.ended Y.status Y.value Y.steps=J)(s:Dq k Y.objs Y.wait Y.out b w):Bw k Y b (w.setCell (.a k.B j) u):=by
 refine⟨?_,by rw[g];exact i,s.gr l f ((Gr.refl _ _).setB _)⟩;have:=f.front.set (o:=0) (j:=j) rfl (by rw[h];exact m) u;rw[Brz]at this;rw[<- p,g,q];exact this.unfront
def Sj{k:Cw}{w:TW}{e J:TV}{b:Bi}(c:Mid w k.B 156 e b.cells J)(h:e.length=12)(s:J.length=6)(f:Dz b)(i:k.Ok){j:Nat}(t:j<6)(u:TX){S':Bo}{v':Dd}(g:S'.now=b) (l:Iv k S'.read S'.objs.length v'=e)(m:J.set j u=Gy v' S'.wait.length S'.out.length S'.ended S'.status S'.value S'.steps)(p:Dq k S'.objs S'.wait S'.out v' w):Bw k S' v' (w.setCell (.a k.B (32+j)) u):=by
 refine⟨?_,by rw[g];exact f,p.gr i c ((Gr.refl _ _).setB _)⟩;have q:(e++b.cells).length=32:=by rw[Ws,h,f.len]
 rw[l,g,<- m];exact(c.tail.set q Ck u).untail
def Bw.gr{k:Cw}{S:Bo}{v:Dd}{w s:TW}(h:Bw k S v w)(c:k.Ok)(b:Bl w s):Bw k S v s :=
 h.now c (Gr.of_below (Gr.refl _ _) b) h.wf (h.blk.below b)
def Dq.tree{k:Cw}{A:List (Int×List Int)}{c:List Bi}{z:TI}{v:Dd}{w:TW}(h:Dq k A c z v w)(b:k.Ok):Dy w k.tg k.T:=by
 have e:=h.keep k.tg b.tr.1 b.tB.1 b.tB.2;exact⟨Brs b.tr.1 h.szs,fun i f=>by rw[Brr (a:=⟨k.tg,i,none⟩) e];exact b.tr.2 i f⟩
def Dq.mths{k:Cw}{A:List (Int×List Int)}{b:List Bi}{z:TI}{v:Dd}{w:TW}(h:Dq k A b z v w)(c:k.Ok):Eb w k.bm (.s k.ma k.lms.length k.mc) k.lms :=
 c.ms.kp (Kp.of_below (e:=none) h.low) Fm Fm Fm Fm Fm
def Dq.ints{k:Cw}{A:List (Int×List Int)}{b:List Bi}{z:TI}{v:Dd}{w:TW}(h:Dq k A b z v w)(c:k.Ok):Ft w k.ia k.ins:=c.ins.below h.low
def Yv(k:Cw)(S:Bo)(v:Dd)(b x:Int)(w:TW)(f:k.Ok)(h:Bw k S v w):Calls prog 85 #[.q k.B 0,.i b,.i x] w fun e m=>e=.r (.tuple #[])/\Bw k (S.fin b x) v m:=by
 obtain⟨p,s,t,z,A,C,D,F,G,I,J,K,L,N,O,Q,a0,V,a1,a2,Y,c⟩:=h.sees;have a3:=c 33;have a4:=c 35;have a5:=c 36;have g:Bw k ⟨S.read,S.objs,S.now,S.wait,S.ended,S.out,b,S.value,S.steps⟩ v (w.setCell (.a k.B 35) (.i b)):=h.setPost f (j:=3) Ck _ rfl rfl rfl h.rows;have l:Bw k ⟨S.read,S.objs,S.now,S.wait,S.ended,S.out,b,x,S.steps⟩ v ((w.setCell (.a k.B 35) (.i b)).setCell (.a k.B 36) (.i x)):=g.setPost f (j:=4) Ck _ rfl rfl rfl g.rows;have Z:Bw k (S.fin b x) v (((w.setCell (.a k.B 35) (.i b)).setCell (.a k.B 36) (.i x)).setCell (.a k.B 33) (.bool true)):=l.setPost f (j:=1) Ck _ rfl rfl rfl l.rows;clear p s t z A C D F G I J K L N O Q V Y c g l;go_in;go_wp2;go_end0;exact⟨rfl,Z⟩
def Ba4(w:TW)(b:Nat):(⟨0,0,none,0,0,0,0,0,0,none,0,0,none,0,0,none,0,0⟩:PM).is Ef w b :=
 ⟨rfl,rfl,rfl,rfl,rfl,rfl,rfl,Brw _ _ _ _,rfl,Brw _ _ _ _,rfl,Brw _ _ _ _,rfl,[],rfl,Brw _ _ _ _,fun p c=>by simp at c⟩
def N8(k:Cw)(S:Bo)(v:Dd)(n:Int)(w:TW)(Y:k.Ok)(h:Bw k S v w):Calls prog 131 #[.q k.B 0,.i n] w fun e Z=>∃m:PM,e=.returned m.val/\m.is (k.E.meth n) Z k.bm/\Bl w Z:=by
 obtain⟨c0,c1,c2,c3,c4,c5,c6,c7,c8,c9,a1,a2,a3,a4,a5,a6,a7,a8,a9,b0,b1,fr⟩:=h.sees;have b:=h.rows.mths Y;have b2:=Y.ml;have b3:=h.blk.lt;clear c0 c2 c3 c4 c5 c6 c7 c8 c9 a1 a2 a3 a4 a5 a6 a7 a8 a9 b0 b1 fr;unfold Dn.meth;have a0:k.E.ms.length=k.lms.length:=by simp[Cw.E]
 rw[a0];by_cases c:n<0;·rw[Th c];clear b h;go_in;go_wp2;refine tb (.agg #[.i 0,.i 0,.s none 0 0,.i 0,.i 0,.i 0,.i 0,.s none 0 0,.s none 0 0,.s none 0 0]) (by simp[results,Bwm,go_sem]) ?_;exact⟨_,rfl,Ba4 _ _,by repeat (first|exact Brm _ _|refine Bs4 ?_ Hd _|refine Bry ?_ Hd _)⟩
 rw[Pk c];by_cases f:(k.lms.length:Int)<=n;·rw[Th f];clear b h;go_in;go_wp2;refine tb (.agg #[.i 0,.i 0,.s none 0 0,.i 0,.i 0,.i 0,.i 0,.s none 0 0,.s none 0 0,.s none 0 0]) (by simp[results,Bwm,go_sem]) ?_;exact⟨_,rfl,Ba4 _ _,by repeat (first|exact Brm _ _|refine Bs4 ?_ Hd _|refine Bry ?_ Hd _)⟩
 rw[Pk f];obtain⟨i,rfl⟩:=Brp (show 0<=n by omega);have hi:i<k.lms.length:=Ck;have e:k.E.ms.getD (i:Int).toNat Ef=k.lms[i].1:=by
  rw[Brx,Vm];simp[Cw.E,hi]
 rw[e];obtain⟨q,g,hg,b4,Ev,hq⟩:=b.mth hi;obtain⟨y0,y1,y2,y3,y4,y5,y6,y7,y8,y9⟩:=T5 Ev;rw[hg]at c1;have b5:(i:Int)<(k.lms.length:Int):=Ck;generalize k.lms[i]=x at *;obtain⟨j,l,p,t,z,A,C,D,F,G,I,J,K,L,N,O,Q,V⟩:=q;simp only at y0 y1 y2 y3 y4 y5 y6 y7 y8 y9;clear Ev b h c f e hg a0;go_in;go_wp2;refine tb (.agg #[.i j,.i l,.s p t z,.i A,.i C,.i D,.i F,.s G I J,.s K L N,.s O Q V]) (by simp[results,Bwm,go_sem]) ?_;have hb:Bl w (w.alloc (O18 j l p t z A C D F G I J K L N O Q V)):=QN _;exact⟨⟨j,l,p,t,z,A,C,D,F,G,I,J,K,L,N,O,Q,V⟩,rfl,hq.below hb,hb⟩
end Go.Proofs.YtpcgnjolfahacaaGreat
