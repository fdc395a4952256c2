/- the proof's parts -/
import Derived.Test.YtpcgnjolfahacaaGreatPk05
set_option maxRecDepth 100000
set_option maxHeartbeats 40000000
set_option linter.unusedVariables false
set_option linter.unusedSimpArgs false
set_option linter.defProp false
namespace Go.Proofs.YtpcgnjolfahacaaGreat
open Go.RowKit Go.Proofs.Tryz
variable{x:Be}{c:Int}{J:List (Rd.Cls×Value)}{L:List (Rd.Mth×Eh)}{t:List Rd.Cls}{m:List Rd.Mth}{u:Nat}{F:Rd.Mth}{z:TI}
def Hg (T:TI)(mp:Int->Option Be)(p:Int)(lo:TP):List Rd.Hnd->Int
 | []=>0
 | h::r=>if El h p=false then Hg T mp p lo r else if J8 T mp ⟨lo,[(3,h.cl)]⟩ h.target≠0 then J8 T mp ⟨lo,[(3,h.cl)]⟩ h.target else Hg T mp p lo r
def Bkm(b:PBd)(mp:Int->Option Be)(f:List Rd.Hnd)(bb:Nat)(p:Int)(v:FrV)(x:Be)(w:TW)(hl:b.T.length<=1000)(hT:Dl w b.tg b.T)(hM:Ri b mp w)(c3:b.hl=f.length)(d7:f.length<=1000)(c4:J5 w bb (.s b.ha b.hl b.hc) f)(hv:v.is x w):Calls prog 234 #[b.pval,.i p,v.val] w fun e l=>e=.r (.i (Hg b.T mp p x.locals f))/\Bl w l:=by
 have hJ:=fun u y q l (h:Bl w l) hu=>Bgz b mp u y q l hl (hT.below h) (hM.below h) hu;have hC:=fun c l (h:Bl w l)=>Bcq c v x l (hv.below h);have a5:Hid (∀l,Bl w l->J5 l bb (.s b.ha b.hl b.hc) f):=fun l h=>c4.kp (Kp.of_below (e:=none) h) Ck;generalize j:Hg b.T mp p x.locals f=R;have A:Hid (Hg b.T mp p x.locals (f.drop 0)=R):=j;obtain⟨a6,a7,a8,a9,b0,b1,B,C,ya,yn,yc,D,F,G,I,J,K,N,O,Q,V,cn,Y,Z,d8,hc,ma,ml,mc,la,lc,T,L⟩:=b;obtain⟨xa,xn,xc,za,zn,zc⟩:=v;simp only at c3 A;subst c3;unfold Hid at a5;simp only[PBd.pval,FrV.val]at hJ hC a5 ⊢;have d3:=Bc a5;have HJ:=Bc hJ;have HC:=Bc hC;clear j hT hM hv c4 hJ hC a5 hl;have c5:=Bx w (O26 (.p B) T.length C ya yn yc D F G I J K N O Q V cn Y Z f.length hc ma ml mc la L.length lc a6 a7 a8 a9 b0 b1 (.p B) T.length C ya yn yc D F G I J K N O Q V cn Y Z f.length hc ma ml mc la L.length lc) (O24 xa xn xc za zn zc);have P0:=Cb w (O26 (.p B) T.length C ya yn yc D F G I J K N O Q V cn Y Z f.length hc ma ml mc la L.length lc a6 a7 a8 a9 b0 b1 (.p B) T.length C ya yn yc D F G I J K N O Q V cn Y Z f.length hc ma ml mc la L.length lc) (O24 xa xn xc za zn zc);have X0:=Bv w (O26 (.p B) T.length C ya yn yc D F G I J K N O Q V cn Y Z f.length hc ma ml mc la L.length lc a6 a7 a8 a9 b0 b1 (.p B) T.length C ya yn yc D F G I J K N O Q V cn Y Z f.length hc ma ml mc la L.length lc) (O24 xa xn xc za zn zc);go_in;go_wp2
 go_loopw [15] (fun s wr=>∃q:Nat,q<=f.length/\s=.i (q:Int)/\Hid (Hg T mp p x.locals (f.drop q)=R)/\Bl w wr/\wr.heap[w.heap.size]?=some (O26 (.p B) T.length C ya yn yc D F G I J K N O Q V cn Y Z f.length hc ma ml mc la L.length lc a6 a7 a8 a9 b0 b1 (.p B) T.length C ya yn yc D F G I J K N O Q V cn Y Z f.length hc ma ml mc la L.length lc)/\wr.heap[w.heap.size+1]?=some (O24 xa xn xc za zn zc))
  (fun s _=>f.length-(intOf s).toNat)
 case atStart=>exact⟨0,Bd,rfl,A,c5,P0,X0⟩
 case round=>
  clear A c5 P0 X0;obtain⟨q,hq,rfl,A,hB,CP,CX⟩:=hrel;have c6:=hB.size;by_cases m:q<f.length
  ·obtain⟨g,hg,d9,_,a1⟩:=Cf (Ba d3 _ hB) Bd;have y0:=(a1 _ (De f q m 0 Bd).2).trans (De f q m 0 Bd).1;have y1:=(a1 _ (De f q m 1 Bd).2).trans (De f q m 1 Bd).1;have y2:=(a1 _ (De f q m 2 Bd).2).trans (De f q m 2 Bd).1;have y3:=(a1 _ (De f q m 3 Bd).2).trans (De f q m 3 Bd).1;have hd:f.drop q=f[q]::f.drop (q+1):=Wr m;have j:=Ba A;rw[hd,Hg]at j;generalize f[q]=hh at *;obtain⟨h1,h2,t,z⟩:=hh;simp at y0 y1 y2 y3;simp only at j;subst hg;have kb:(q:Int)<(f.length:Int):=Bd;have b2:=hB.alloc c6 (O19 h1 h2 t z);have b3:=Bk CP (O19 h1 h2 t z);have b4:=Bk CX (O19 h1 h2 t z);have c7:=Bf wr (O19 h1 h2 t z);have b5:=Y4 ⟨h1,h2,t,z⟩ p (wr.alloc (O19 h1 h2 t z));simp only at b5;generalize El ⟨h1,h2,t,z⟩ p=CV at *;have c8:=Bc b5;clear b5 hd a1 A;cases CV with
   | false =>
    rw[Sp rfl]at j;have HG:Hid (Hg T mp p x.locals (f.drop (q+1))=R):=j;clear j;go_wp2_with fail;refine Qb (Ba c8) b2 ?_;intro w1 a0 a2;go_wp2;go_roundw
    case rel=>exact⟨q+1,Bd,Lt,HG,a2,stay a0 b3,stay a0 b4⟩
    case measure=>simp[intOf];omega
   | true =>
    rw[Pf Fr]at j;have c9:=Bc j;clear j;go_wp2_with fail;refine Qb (Ba c8) b2 ?_;intro w1 a0 a2;have d0:=stay a0 b3;have b6:=stay a0 b4;have b7:=stay a0 c7;clear a0 b3 b4 c7 CP CX b2 hB c6;obtain⟨x0,x1⟩:=cl2 b6;have z3:=Bb b7 3;simp at x0 x1 z3;go_wp2_with fail;refine(Ba HC z _ a2).mono ?_;rintro e w2 ⟨u,rfl,hu,a3⟩;obtain⟨ua,un,uc,va,vn,vc⟩:=u;have d1:=QB a2 a3;have d4:=d1.size;have b8:=Bk (stay a3 d0) (O24 ua un uc va vn vc);have d5:=Bk (stay a3 b6) (O24 ua un uc va vn vc);have b9:=stay a3 b7;have c0:=d1.alloc d4 (O24 ua un uc va vn vc);have d6:=hu.below (QN (O24 ua un uc va vn vc));have hj:=Ba HJ ⟨ua,un,uc,va,vn,vc⟩ _ t _ c0 d6;simp only at hj;have j:=Ba c9;generalize J8 T mp ⟨x.locals,[(3,z)]⟩ t=JV at *;have d2:=Bc hj;have z2:=Bb b9 2;have lH:=Pk b9;simp at z2;clear a3 d0 b6 b7 b9 x0 x1 z3 hu hj c9 a2;by_cases a4:JV=0
    ·rw[Pf (by simpa using a4)]at j;have HG:Hid (Hg T mp p x.locals (f.drop (q+1))=R):=j;subst a4;clear j;go_wp2_with (refine Bwd Hd 212 (.tmp 3) Hd w.heap.size Hd 212 _ (0,0) _ b8 Bv2 Hd Tryz.infoPass ?_)
     refine Qb (Ba d2) c0 ?_;intro w3 c1 c2;go_wp2;go_roundw
     case rel=>exact⟨q+1,Bd,Lt,HG,c2,stay c1 b8,stay c1 d5⟩
     case measure=>simp[intOf];omega
    rw[Sp a4]at j;have HE:=Bc j;have f0:(JV != 0)=true:=by simpa using a4
    clear j a4;go_wp2_with (refine Bwd Hd 212 (.tmp 3) Hd w.heap.size Hd 212 _ (0,0) _ b8 Bv2 Hd Tryz.infoPass ?_)
    refine Qb (Ba d2) c0 ?_;intro w3 c1 c2;go_wp2;go_ret;exact⟨by rw[<- Ba HE];rfl,c2⟩
  have HE:Hid ((0:Int)=R):=by unfold Hid;rw[<- Ba A,Bvi Bd];rfl
  have kb:¬(q:Int)<(f.length:Int):=Bd;clear A;go_wp2;go_ret;exact⟨by rw[<- Ba HE];rfl,hB⟩
def Tn (T:TI)(mp:Int->Option Be)(H:Int)(B:Option Be)(op n nxt len:Int):Int :=
 if H≠0 then H else if B.isSome=false then 10 else if Dx op=true/\J8 T mp (Ef B) n≠0 then J8 T mp (Ef B) n
 else if Dz op=false then 0 else To T mp len (Ef B) nxt
def Bmz(b:PBd)(mp:Int->Option Be)(p:Nat)(op n H:Int)(RB:Option Be)(v:FrV)(w:TW)(hl:b.T.length<=1000)(hT:Dl w b.tg b.T)(hM:Ri b mp w)(hp:p<=100000) (hH:∀c,Bl w c->Calls prog 234 #[b.pval,.i (p:Int),v.val] c fun e c7=>e=.r (.i H)/\Bl c c7) (d3:∀c,Bl w c->Calls prog 221 #[b.val,.agg #[.i (p:Int),.i op,.i n],v.val] c fun e c7=>∃u:FrV,e=.r (.tuple #[u.val,.bool RB.isSome])/\(∀y,RB=some y->u.is y c7)/\Bl c c7):Calls prog 186 #[b.pval,.agg #[.i (p:Int),.i op,.i n],v.val] w fun e c=>∃u:FrV, e=.r (.tuple #[u.val,.i (Tn b.T mp H RB op n ((p+Cd.wd op:Nat):Int) (b.cn:Int))])/\(Tn b.T mp H RB op n ((p+Cd.wd op:Nat):Int) (b.cn:Int)=0->∀y,RB=some y->u.is y c)/\Bl w c:=by
 have hJ:=fun u y q c (h:Bl w c) Q=>Bgz b mp u y q c hl (hT.below h) (hM.below h) Q;have d4:=fun u y q c (h:Bl w c) Q=>Bqx b mp u y q c hl (hT.below h) (hM.below h) Q;have g1:=fun c=>W7 p op n c hp;have g2:=fun c=>Baz op c;have g3:=fun c=>Yw op c;generalize D:Tn b.T mp H RB op n ((p+Cd.wd op:Nat):Int) (b.cn:Int)=A;unfold Tn at D;generalize p+Cd.wd op=d5 at *;obtain⟨d6,d7,d8,d9,f0,f1,tg,tc,ya,yn,yc,cl,nm,pa,pl,pc,r1,r2,lo,st,ca,cn,cc,ha,a2,hc,ma,ml,mc,la,lc,T,L⟩:=b;obtain⟨xa,xn,xc,za,zn,zc⟩:=v;simp only[PBd.pval,PBd.val,FrV.val]at hJ d4 hH d3 D ⊢;generalize Dx op=J at *;generalize Dz op=G at *;have HH:=Bc hH;have f2:=Bc d3;have HJ:=Bc hJ;have g4:=Bc d4;have g5:=Bc g1;have g6:=Bc g2;have f3:=Bc g3;clear hH d3 hJ d4 g1 g2 g3 hT hM hl;have a0:=Mq w (O26 (.p tg) T.length tc ya yn yc cl nm pa pl pc r1 r2 lo st ca cn cc ha a2 hc ma ml mc la L.length lc d6 d7 d8 d9 f0 f1 (.p tg) T.length tc ya yn yc cl nm pa pl pc r1 r2 lo st ca cn cc ha a2 hc ma ml mc la L.length lc) (O15 (p:Int) op n) (O24 xa xn xc za zn zc) (O24 none 0 0 none 0 0);obtain⟨P0,I0,X0,R0⟩:=J2 w (O26 (.p tg) T.length tc ya yn yc cl nm pa pl pc r1 r2 lo st ca cn cc ha a2 hc ma ml mc la L.length lc d6 d7 d8 d9 f0 f1 (.p tg) T.length tc ya yn yc cl nm pa pl pc r1 r2 lo st ca cn cc ha a2 hc ma ml mc la L.length lc) (O15 (p:Int) op n) (O24 xa xn xc za zn zc) (O24 none 0 0 none 0 0);have f4:=a0.size;by_cases h0:H=0
 ·subst h0;rw[Pf Fr]at D;cases RB with
  | none =>
   rw[Sp Fr]at D;have N:=Bc D;clear D;go_in;go_wp2_with (refine Bwd Hd 212 (.tmp 3) Hd w.heap.size Hd 212 _ (0,0) _ P0 Bv2 Hd Tryz.infoPass ?_)
   refine Qm (Ba HH _ a0) ?_;intro w1 j;have K:=a0.trans (j.mono f4);have c8:=K.size;have P1:=stay j P0;have I1:=stay j I0;have X1:=stay j X0;have R1:=stay j R0;clear j P0 I0 X0 R0;obtain⟨m0,m1,m2,m3,m4,m5,m6,m7,m8,m9,a7,a8,a9,b0,b1,b2,b3,b4,b5,b6,b7,b8,b9,c0,c1,c2,c3,c4⟩:=Bq7 P1;simp at m0 m1 m2 m3 m4 m5 m6 m7 m8 m9 a7 a8 a9 b0 b1 b2 b3 b4 b5 b6 b7 b8 b9 c0 c1 c2 c3 c4;obtain⟨V,Y,Z⟩:=cl3 I1;simp at V Y Z;obtain⟨x0,x1⟩:=cl2 X1;simp at x0 x1;go_wp2_with fail;refine(Ba f2 _ K).mono ?_;rintro e w2 ⟨u,rfl,-,F⟩;obtain⟨l,m,t,z,B,vc⟩:=u;have a3:=K.trans (F.mono c8);have f5:=a3.size;have I:=stay F R1;obtain⟨f,g⟩:=cl2 I;obtain⟨q0,q1⟩:=fr2 I;have lr:=Pk I;simp at f g;clear m0 m1 m2 m3 m4 m5 m6 m7 m8 m9 a7 a8 a9 b0 b1 b2 b3 b4 b5 b6 b7 b8 b9 c0 c1 c2 c3 c4 V Y Z x0 x1 F;have h2:=Ba N;subst h2;go_wp2_with fail;refine tb (.tuple #[.agg #[.s none 0 0,.s none 0 0],.i 10]) (by simp[results,Byd,go_sem,f,g,lr]) ?_;exact⟨⟨none,0,0,none,0,0⟩,rfl,fun h=>(by simp at h),by repeat (first|refine Bvq ?_ Fm _|refine Bwu ?_ (by first|omega|(simp;omega)) _|exact a3)⟩
  | some y =>
   rw[Pf Fr,show Ef (some y)=y from rfl]at D;have N:=Bc D;clear D;go_in;go_wp2_with (refine Bwd Hd 212 (.tmp 3) Hd w.heap.size Hd 212 _ (0,0) _ P0 Bv2 Hd Tryz.infoPass ?_)
   refine Qm (Ba HH _ a0) ?_;intro w1 j;have K:=a0.trans (j.mono f4);have c8:=K.size;have P1:=stay j P0;have I1:=stay j I0;have X1:=stay j X0;have R1:=stay j R0;clear j P0 I0 X0 R0;obtain⟨m0,m1,m2,m3,m4,m5,m6,m7,m8,m9,a7,a8,a9,b0,b1,b2,b3,b4,b5,b6,b7,b8,b9,c0,c1,c2,c3,c4⟩:=Bq7 P1;simp at m0 m1 m2 m3 m4 m5 m6 m7 m8 m9 a7 a8 a9 b0 b1 b2 b3 b4 b5 b6 b7 b8 b9 c0 c1 c2 c3 c4;obtain⟨V,Y,Z⟩:=cl3 I1;simp at V Y Z;obtain⟨x0,x1⟩:=cl2 X1;simp at x0 x1;go_wp2_with fail;refine(Ba f2 _ K).mono ?_;rintro e w2 ⟨u,rfl,Q,F⟩;have Q:=Q y rfl;obtain⟨l,m,t,z,B,vc⟩:=u;have a3:=K.trans (F.mono c8);have f5:=a3.size;have P2:=Bk (stay F P1) (O24 l m t z B vc);have I2:=Bk (stay F I1) (O24 l m t z B vc);have I:=Bk (stay F R1) (O24 l m t z B vc);have Y2:=Bf w2 (O24 l m t z B vc);have a4:=a3.alloc f5 (O24 l m t z B vc);have f6:=a4.size;have c9:=Q.below (QN (O24 l m t z B vc));have c5:=Bb (stay F I1) 1;have lI:=Pk (stay F I1);have lR:=Pk (stay F R1);simp at c5;clear m0 m1 m2 m3 m4 m5 m6 m7 m8 m9 a7 a8 a9 b0 b1 b2 b3 b4 b5 b6 b7 b8 b9 c0 c1 c2 c3 c4 V Y Z x0 x1 F P1 I1 X1 R1 Q;go_wp2_with fail;refine Qm (Ba g6 _) ?_;rintro w3 rfl
   go_upto_if 34 with fail
   go_cut [8] from 12 (fun _ wx=>Bl w wx/\wx.heap[w.heap.size]?=some (O26 (.p tg) T.length tc ya yn yc cl nm pa pl pc r1 r2 lo st ca cn cc ha a2 hc ma ml mc la L.length lc d6 d7 d8 d9 f0 f1 (.p tg) T.length tc ya yn yc cl nm pa pl pc r1 r2 lo st ca cn cc ha a2 hc ma ml mc la L.length lc)/\wx.heap[w.heap.size+1]?=some (O15 (p:Int) op n)/\wx.heap[w.heap.size+1+1+1]?=some (O24 none 0 0 none 0 0)/\wx.heap[w2.heap.size]?=some (O24 l m t z B vc) /\
    FrV.is ⟨l,m,t,z,B,vc⟩ y wx/\Hid ((if G=false then 0 else To T mp (cn:Int) y (d5:Int))=A))
   case first=>
    have C:=Ba N;cases J with
    | false =>
     rw[Pf Fr]at C;have f7:=Bc C;clear C N;go_wp2
     go_meet
     case rel=>exact⟨a4,P2,I2,I,Y2,c9,f7⟩
    | true =>
     have hj:=Ba HJ ⟨l,m,t,z,B,vc⟩ y n _ a4 c9;simp only at hj;generalize J8 T mp y n=JV at *;have g7:=Bc hj;clear hj;have h3:=Bb I2 2;simp at h3;by_cases a5:JV=0
     ·rw[Pf (by simp[a5])]at C;have f7:=Bc C;subst a5;clear C N;go_wp2_with (refine Bwd Hd 212 (.tmp 3) Hd w.heap.size Hd 212 _ (0,0) _ P2 Bv2 Hd Tryz.infoPass ?_)
      refine Qm (Ba g7) ?_;intro w4 O;have d0:=a4.trans (O.mono f6);go_wp2
      go_meet
      case rel=>exact⟨d0,stay O P2,stay O I2,stay O I,stay O Y2,c9.below O,f7⟩
     rw[Sp ⟨rfl,a5⟩]at C;have i3:(JV != 0)=true:=by simpa using a5
     have HE:=Bc C;have f8:A≠0:=by rw[<- C];exact a5
     clear C N a5;go_wp2_with (refine Bwd Hd 212 (.tmp 3) Hd w.heap.size Hd 212 _ (0,0) _ P2 Bv2 Hd Tryz.infoPass ?_)
     refine Qm (Ba g7) ?_;intro w4 O;have d0:=a4.trans (O.mono f6);have i4:=d0.size;have R4:=stay O I;obtain⟨f,g⟩:=cl2 R4;obtain⟨q0,q1⟩:=fr2 R4;have lr:=Pk R4;simp at f g;go_wp2_with fail;refine tb (.tuple #[.agg #[.s none 0 0,.s none 0 0],.i JV]) (by simp[results,Byd,go_sem,f,g]) ?_;exact⟨⟨none,0,0,none,0,0⟩,by rw[<- Ba HE],fun h=>absurd h f8,by repeat (first|refine Bvq ?_ Fm _|exact d0)⟩
   case rest=>
    obtain⟨f9,P5,I5,R5,Y5,g0,HE⟩:=hcut;have h4:=f9.size;clear N P2 I2 I Y2 c9 a4 f6 g6 HJ HH f2 a3 f5 c5 lI;have lY:=Pk Y5;have C:=Ba HE;have c5:=Bb I5 1;simp at c5;cases G with
    | false =>
     rw[Sp rfl]at C;obtain⟨y0,y1⟩:=cl2 Y5;simp at y0 y1;obtain rfl:=C;obtain⟨f,g⟩:=cl2 R5;obtain⟨q0,q1⟩:=fr2 R5;have lr:=Pk R5;simp at f g;clear HE;go_wp2_with fail;refine Qm (Ba f3 _) ?_;rintro w6 rfl;go_wp2_with fail;refine tb (.tuple #[.agg #[.s l m t,.s z B vc],.i 0]) (by simp[results,Byd,go_sem,f,g]) ?_;exact⟨⟨l,m,t,z,B,vc⟩,rfl,g0.set2 R5 _ _,by repeat (first|refine Bvq ?_ Fm _|exact f9)⟩
    | true =>
     rw[Pf Fr]at C;obtain⟨V,Y,Z⟩:=cl3 I5;simp at V Y Z;go_wp2_with fail;refine Qm (Ba f3 _) ?_;rintro w6 rfl;go_wp2_with fail;refine Qm (Ba g5 _) ?_;intro w7 a6;have d1:=f9.trans (a6.mono h4);have g8:=d1.size;have P7:=stay a6 P5;have R7:=stay a6 R5;have Y7:=stay a6 Y5;have g9:=g0.below a6;clear a6 P5 I5 R5 Y5 g0 V Y Z HE f3 g5 c5;have hg:=Ba g4 ⟨l,m,t,z,B,vc⟩ y (d5:Int) _ d1 g9;simp only at hg;generalize To T mp (cn:Int) y (d5:Int)=GV at *;have h1:=Bc hg;obtain⟨y0,y1⟩:=cl2 Y7;simp at y0 y1;clear hg g4;obtain rfl:=C;by_cases d2:GV=0
     ·subst d2;go_wp2_with (refine Bwd Hd 212 (.tmp 3) Hd w.heap.size Hd 212 _ (0,0) _ P7 Bv2 Hd Tryz.infoPass ?_)
      refine Qm (Ba h1) ?_;intro w8 a1;have c6:=d1.trans (a1.mono g8);have h5:=c6.size;have R8:=stay a1 R7;have Y8:=stay a1 Y7;have h6:=g9.below a1;have h7:=Bb Y8 0;have h8:=Bb Y8 1;simp at h7 h8;obtain⟨f,g⟩:=cl2 R8;obtain⟨q0,q1⟩:=fr2 R8;have lr:=Pk R8;simp at f g;go_wp2_with fail;refine tb (.tuple #[.agg #[.s l m t,.s z B vc],.i 0]) (by simp[results,Byd,go_sem,f,g]) ?_;exact⟨⟨l,m,t,z,B,vc⟩,rfl,h6.set2 R8 _ _,by repeat (first|refine Bvq ?_ Fm _|exact c6)⟩
     have i5:(GV != 0)=true:=by simpa using d2
     have h9:=Bc d2;clear d2;go_wp2_with (refine Bwd Hd 212 (.tmp 3) Hd w.heap.size Hd 212 _ (0,0) _ P7 Bv2 Hd Tryz.infoPass ?_)
     refine Qm (Ba h1) ?_;intro w8 a1;have c6:=d1.trans (a1.mono g8);have h5:=c6.size;have R8:=stay a1 R7;obtain⟨f,g⟩:=cl2 R8;obtain⟨q0,q1⟩:=fr2 R8;have lr:=Pk R8;simp at f g;go_wp2_with fail;refine tb (.tuple #[.agg #[.s none 0 0,.s none 0 0],.i GV]) (by simp[results,Byd,go_sem,f,g]) ?_;exact⟨⟨none,0,0,none,0,0⟩,rfl,fun h=>absurd h (Ba h9),by repeat (first|refine Bvq ?_ Fm _|exact c6)⟩
 rw[Sp h0]at D;have N:=Bc D;have i6:(H != 0)=true:=by simpa using h0
 have f8:A≠0:=by rw[<- D];exact h0
 clear D h0;go_in;go_wp2_with (refine Bwd Hd 212 (.tmp 3) Hd w.heap.size Hd 212 _ (0,0) _ P0 Bv2 Hd Tryz.infoPass ?_)
 refine Qm (Ba HH _ a0) ?_;intro w1 j;have K:=a0.trans (j.mono f4);have c8:=K.size;have I:=stay j R0;obtain⟨f,g⟩:=cl2 I;obtain⟨q0,q1⟩:=fr2 I;have lr:=Pk I;simp at f g;go_wp2_with fail;refine tb (.tuple #[.agg #[.s none 0 0,.s none 0 0],.i H]) (by simp[results,Byd,go_sem,f,g]) ?_;exact⟨⟨none,0,0,none,0,0⟩,by rw[<- Ba N],fun h=>absurd h f8,by repeat (first|refine Bvq ?_ Fm _|exact K)⟩
def Oq (mp:Int->Option Be)(lk:Cd.Ins->Be->Int)(bh:Cd.Ins->Be->Option Be):List Cd.Ins->Option Be->Int × Int
 | [],_=>(0,0)
 | i::r,o=>match (mp i.place).or o with
  | none=>Oq mp lk bh r none
  | some x=>if lk i x≠0 then (lk i x,i.place) else Oq mp lk bh r (if Dz i.op=true then bh i x else none)
def Tp (T:TI)(mp:Int->Option Be)(lk:Cd.Ins->Be->Int)(bh:Cd.Ins->Be->Option Be)(L:List Cd.Ins)(x0:Be):Int × Int :=
 if Iv T mp x0 0=false then (9,0) else Oq mp lk bh L (some x0)
def Bm2(b:PBd)(mp:Int->Option Be)(lk:Cd.Ins->Be->Int)(bh:Cd.Ins->Be->Option Be)(x0:Be)(P:Be->Prop)(bb:Nat)(w:TW)(hl:b.T.length<=1000)(hT:Dl w b.tg b.T)(hM:Ri b mp w)(o5:b.L.length<=100000)(f8:Hs w bb (.s b.la b.L.length b.lc) b.L) (c6:∀f,Bl w f->Calls prog 110 #[.agg #[.i b.cl,.i b.nm,.s b.pa b.pl b.pc,.i b.r1,.i b.r2,.i b.lo,.i b.st,.s b.ca b.cn b.cc,.s b.ha b.hl b.hc,.s b.ma b.ml b.mc]] f fun e b2=>∃u:FrV,e=.returned u.val/\u.is x0 b2/\Bl f b2) (c7:∀i∈b.L,∀(v:FrV) (x:Be) f,Bl w f->v.is x f->P x->Calls prog 186 #[b.pval,.agg #[.i i.place,.i i.op,.i i.n],v.val] f fun e b2=>∃u:FrV,e=.r (.tuple #[u.val,.i (lk i x)])/\(lk i x=0->∃y,bh i x=some y/\u.is y b2/\P y)/\Bl f b2) (f9:P x0)(g0:∀q z,mp q=some z->P z):Calls prog 129 #[b.pval] w fun e f=>e=.r (.agg #[.i (Tp b.T mp lk bh b.L x0).1,.i 0,.i (Tp b.T mp lk bh b.L x0).2])/\Bl w f:=by
 have c8:=fun v x f (h:Bl w f) hv=>Xl b mp v x 0 f hl (hT.below h) (hM.below h) hv;have c9:=fun q f h=>hM q f h;have c0:Hid (∀f,Bl w f->Hs f bb (.s b.la b.L.length b.lc) b.L):=fun f h=>f8.kp (Kp.of_below (e:=none) h) Ck;generalize hR:Tp b.T mp lk bh b.L x0=R;unfold Tp at hR;generalize hL:b.L=LL at *;obtain⟨a3,a4,a5,a6,a7,a8,t,A,ya,yn,yc,B,C,D,F,G,I,J,K,N,O,cn,Q,V,m,Z,ma,ml,mc,la,lc,T,L⟩:=b;simp only at hL;subst hL;unfold Hid at c0;simp only[PBd.pval,FrV.val]at c8 c9 c6 c7 c0 hR ⊢;have k8:=Bc c0;have g1:=Bc c8;have k9:=Bc c9;have g2:=Bc c6;have l0:=Bc c7;have l1:=Bc g0;have HR:=Bc hR;clear c8 c9 c6 c7 g0 hR hT hM f8 c0 hl;have d0:=Bx w (O26 (.p t) T.length A ya yn yc B C D F G I J K N O cn Q V m Z ma ml mc la L.length lc a3 a4 a5 a6 a7 a8 (.p t) T.length A ya yn yc B C D F G I J K N O cn Q V m Z ma ml mc la L.length lc) (O8 0 0 0);have P0:=Cb w (O26 (.p t) T.length A ya yn yc B C D F G I J K N O cn Q V m Z ma ml mc la L.length lc a3 a4 a5 a6 a7 a8 (.p t) T.length A ya yn yc B C D F G I J K N O cn Q V m Z ma ml mc la L.length lc) (O8 0 0 0);have Z0:=Bv w (O26 (.p t) T.length A ya yn yc B C D F G I J K N O cn Q V m Z ma ml mc la L.length lc a3 a4 a5 a6 a7 a8 (.p t) T.length A ya yn yc B C D F G I J K N O cn Q V m Z ma ml mc la L.length lc) (O8 0 0 0);go_in
 go_upto_region 1 with fail
 generalize hW:(w.alloc (O26 (.p t) T.length A ya yn yc B C D F G I J K N O cn Q V m Z ma ml mc la L.length lc a3 a4 a5 a6 a7 a8 (.p t) T.length A ya yn yc B C D F G I J K N O cn Q V m Z ma ml mc la L.length lc)).alloc (O8 0 0 0)=W0 at *;clear hW;obtain⟨m0,m1,m2,m3,m4,m5,m6,m7,m8,m9,g3,g4,b3,g5,g6,g7,g8,g9,h0,h1,h2,h3,h4,h5,h6,h7,h8,h9⟩:=Bq7 P0;simp at m0 m1 m2 m3 m4 m5 m6 m7 m8 m9 g3 g4 b3 g5 g6 g7 g8 g9 h0 h1 h2 h3 h4 h5 h6 h7 h8 h9;go_wp2_with fail;refine(Ba g2 _ d0).mono ?_;rintro e w1 ⟨u,rfl,hu,b4⟩;obtain⟨ua,un,uc,va,vn,vc⟩:=u;have d1:=QB d0 b4;have i3:=d1.size;have P1:=Bk (stay b4 P0) (O24 ua un uc va vn vc);have Z1:=Bk (stay b4 Z0) (O24 ua un uc va vn vc);have Y1:=Bf w1 (O24 ua un uc va vn vc);have o6:=Pk (stay b4 Z0);have b5:=d1.alloc i3 (O24 ua un uc va vn vc);have i4:=b5.size;have a9:=hu.below (QN (O24 ua un uc va vn vc));clear b4 hu P0 Z0 m0 m1 m2 m3 m4 m5 m6 m7 m8 m9 g3 g4 b3 g5 g6 g7 g8 g9 h0 h1 h2 h3 h4 h5 h6 h7 h8 h9;have d2:=Ba g1 ⟨ua,un,uc,va,vn,vc⟩ x0 _ b5 a9;simp only at d2;have c:=Ba HR;generalize Iv T mp x0 0=FA at *;have d3:=Bc d2;clear d2 g1 HR;cases FA with
 | false =>
  rw[Sp rfl]at c;obtain rfl:=c;go_wp2_with (refine Bwd Hd 212 (.tmp 1) Hd w.heap.size Hd 212 _ (0,0) _ P1 Bv2 Hd Tryz.infoPass ?_)
  refine Qm (Ba d3) ?_;intro w3 a1;have c1:=b5.trans (a1.mono i4);have Z3:=stay a1 Z1;obtain⟨z0,z1,z2⟩:=cl3 Z3;simp at z0 z1 z2;obtain⟨q0,q1,q2⟩:=fr3 Z3;have lr:=Pk Z3;go_wp2_with fail;refine tb (.agg #[.i 9,.i 0,.i 0]) (by simp[results,B0g,go_sem,z0,z1,z2]) ?_;exact⟨rfl,by repeat (first|refine Bvq ?_ Fr _|exact c1)⟩
 | true =>
  rw[Pf Fr]at c;have HA:Hid (Oq mp lk bh (L.drop 0) (some x0)=R):=c;clear c;go_wp2_with (refine Bwd Hd 212 (.tmp 1) Hd w.heap.size Hd 212 _ (0,0) _ P1 Bv2 Hd Tryz.infoPass ?_)
  refine Qm (Ba d3) ?_;intro w3 a1;have c1:=b5.trans (a1.mono i4);have P3:=stay a1 P1;have Z3:=stay a1 Z1;have Y3:=stay a1 Y1;have i5:=a9.below a1;have b3:=Bb P3 12;simp at b3;clear a1 P1 Z1 Y1 a9 b5 d3;go_wp2
  go_loopw [4,22] (fun s4 l2 wr=>∃(q:Nat) (o:Option Be) (u:FrV),q<=L.length/\s4=.bool o.isSome/\l2=.i (q:Int)/\Hid (Oq mp lk bh (L.drop q) o=R) /\
    wr.heap[w1.heap.size]?=some (O24 u.la u.ln u.lc u.sa u.sn u.sc)/\(∀x,o=some x->u.is x wr/\P x) /\
    Bl w wr/\wr.heap[w.heap.size]?=some (O26 (.p t) T.length A ya yn yc B C D F G I J K N O cn Q V m Z ma ml mc la L.length lc a3 a4 a5 a6 a7 a8 (.p t) T.length A ya yn yc B C D F G I J K N O cn Q V m Z ma ml mc la L.length lc)/\wr.heap[w.heap.size+1]?=some (O8 0 0 0))
   (fun _ v _=>L.length-(intOf v).toNat)
  case atStart=>exact⟨0,some x0,⟨ua,un,uc,va,vn,vc⟩,Bd,rfl,rfl,HA,Y3,fun x hx=>(by obtain rfl:=Option.some.inj hx;exact⟨i5,f9⟩),c1,P3,Z3⟩
  case round=>
   clear HA P3 Z3 Y3 i5 c1 b3 d1 i3 d0 f9 g2;obtain⟨q,o,u,hq,rfl,rfl,HA,Y,hu,hB,CP,CZ⟩:=hrel;obtain⟨ua,un,uc,va,vn,vc⟩:=u;simp only at Y;have l3:=hB.size;by_cases d4:q<L.length
   ·obtain⟨g,hg,o7,_,c2⟩:=Cf (Ba k8 _ hB) Bd;obtain⟨t1,t2,t3,t4⟩:=W4 L q d4;have y0:=(c2 (q*3) Bd).trans t1;have y1:=(c2 (q*3+1) Bd).trans t2;have y2:=(c2 (q*3+2) Bd).trans t3;have l4:=Bvh d4;have hd:L.drop q=L[q]::L.drop (q+1):=Wr d4;have c:=Ba HA;rw[hd,Oq]at c;generalize L[q]=l5 at *;obtain⟨j,l,ix⟩:=l5;simp only at y0 y1 y2 c;subst hg;have kb:(q:Int)<(L.length:Int):=Bd;have d5:=Ba l0 ⟨j,l,ix⟩ l4;have i6:=Ba l1 j;have i7:=fun f h=>Ba k9 j f h;have i8:=fun f=>Yw l f;simp only at d5;generalize mp j=c3 at *;have l6:=Bc d5;have i9:=Bc i7;have l7:=Bc i8;have b6:=Bc c;have d6:=hB.alloc l3 (O15 j l ix);have d7:=Bk CP (O15 j l ix);have j2:=Bk CZ (O15 j l ix);have j3:=Bf wr (O15 j l ix);have j4:=Bk Y (O15 j l ix);clear d5 i7 i8 hd c2 c HA t1 t2 t3 t4;go_wp2_with (refine Bwd Hd 212 (.tmp 1) Hd w.heap.size Hd 212 _ (0,0) _ d7 Bv2 Hd Tryz.infoPass ?_)
    refine(Ba i9 _ d6).mono ?_;rintro e w4 ⟨u2,rfl,a9,a2⟩;obtain⟨l8,l9,n0,n1,n2,n3⟩:=u2;have c4:=QB d6 a2;have j5:=c4.size;have d8:=stay a2 d7;have d9:=stay a2 j2;have c5:=stay a2 j3;have X4:=stay a2 j4;have lI:=Pk Y;have b0:=Bb X4 0;have b1:=Bb X4 1;obtain⟨p0,p1⟩:=fr2 X4;have lX:=Pk X4;have n4:=Pk c5;simp at b0 b1
    go_upto_if 33 with fail
    go_cut [4] from 23 to 54 (fun s4 wx=>∃u':FrV,s4=.bool (c3.or o).isSome/\wx.heap[w1.heap.size]?=some (O24 u'.la u'.ln u'.lc u'.sa u'.sn u'.sc)/\(∀x,c3.or o=some x->u'.is x wx/\P x) /\
     Bl w wx/\wx.heap[w.heap.size]?=some (O26 (.p t) T.length A ya yn yc B C D F G I J K N O cn Q V m Z ma ml mc (.p g) L.length lc a3 a4 a5 a6 a7 a8 (.p t) T.length A ya yn yc B C D F G I J K N O cn Q V m Z ma ml mc (.p g) L.length lc)/\wx.heap[w.heap.size+1]?=some (O8 0 0 0)/\wx.heap[wr.heap.size]?=some (O15 j l ix))
    case first=>
     cases c3 with
     | none =>
      go_wp2
      go_meet
      case rel=>exact⟨⟨ua,un,uc,va,vn,vc⟩,rfl,Bk X4 _,fun x hx=>⟨(((hu x hx).1.below (QN _)).below a2).below (QN _),(hu x hx).2⟩,c4.alloc j5 _,Bk d8 _,Bk d9 _,Bk c5 _⟩
     | some z =>
      have n5:=i6 z rfl;go_wp2
      go_meet
      case rel=>exact⟨⟨l8,l9,n0,n1,n2,n3⟩,rfl,Bk (Rp X4 _ _) _,fun x hx=>(by obtain rfl:=Option.some.inj hx;exact⟨(a9.set2 X4 _ _).below (QN _),n5⟩),((c4.setCell Fm _).setCell Fm _).alloc Fm _,Bk ((On Bd).trans d8) _,Bk ((On Bd).trans d9) _,Bk ((On Bd).trans c5) _⟩
    case rest=>
     obtain⟨u3,rfl,X5,j6,b7,P5,Z5,I5⟩:=hcut;obtain⟨j7,j8,j9,k0,k2,k3⟩:=u3;simp only at X5;have k4:=b7.size;have o8:=Pk X5;have c:=Ba b6;clear d8 d9 c5 X4 b0 b1 p0 p1 lX n4 a9 hu a2 c4 j5 d7 j2 j3 j4 CP CZ Y d6 b6 y0 y1 y2 i6 i9;generalize c3.or o=o1 at *;cases o1 with
     | none =>
      have HG:Hid (Oq mp lk bh (L.drop (q+1)) none=R):=c;clear c;go_wp2;go_roundw
      case rel=>exact⟨q+1,none,⟨j7,j8,j9,k0,k2,k3⟩,Bd,rfl,Lt,HG,X5,fun x hx=>(by cases hx),b7,P5,Z5⟩
      case measure=>simp[intOf];omega
     | some x =>
      obtain⟨k5,n6⟩:=j6 x rfl;have f0:=Ba l6 ⟨j7,j8,j9,k0,k2,k3⟩ x _ b7 k5 n6;simp only at c f0;have f1:∀y,bh ⟨j,l,ix⟩ x=some y->(if Dz l=true then bh ⟨j,l,ix⟩ x else none)=if Dz l=true then some y else none:=fun y hy=>by rw[hy]
      generalize lk ⟨j,l,ix⟩ x=LV at *;have k6:=Bc f0;clear f0 j6;have b0:=Bb X5 0;have b1:=Bb X5 1;obtain⟨i0,i1,i2⟩:=cl3 I5;simp at b0 b1 i0 i1 i2;by_cases b8:LV=0
      ·rw[Pf (by simpa using b8)]at c;have b6:=Bc c;subst b8;clear c;go_wp2_with (refine Bwd Hd 212 (.tmp 1) Hd w.heap.size Hd 212 _ (0,0) _ P5 Bv2 Hd Tryz.infoPass ?_)
       refine(Ba k6).mono ?_;rintro e w6 ⟨u6,rfl,n7,a0⟩;obtain⟨y,hy,n8,n9⟩:=n7 (by trivial);obtain⟨f2,f3,f4,f5,f6,f7⟩:=u6;have c:=Ba b6;rw[f1 y hy]at c;have b9:=b7.trans (a0.mono k4);have o0:=b9.size;have P6:=stay a0 P5;have Z6:=stay a0 Z5;have I6:=stay a0 I5;have X6:=stay a0 X5;have o2:=Bb X6 0;have o3:=Bb X6 1;obtain⟨e0,e1⟩:=fr2 X6;have o9:=Pk X6;have j1:=Bb I6 1;have o4:=Pk I6;simp at o2 o3 j1;clear f1 hy b0 b1 i0 i1 i2 a0 P5 Z5 I5 X5 k5 b6;have k7:=Bc c;clear c;have I7:((w6.setCell (.a w1.heap.size 0) (.s f2 f3 f4)).setCell (.a w1.heap.size 1) (.s f5 f6 f7)).heap[wr.heap.size]?=some (O15 j l ix):=(On Bd).trans I6;have k1:=Bb I7 1;have p2:=Pk I7;simp at k1;go_wp2_with fail;refine Qm (Ba l7 _) ?_;rintro w7 rfl;have c:=Ba k7;generalize Dz l=gi at *;cases gi
       all_goals
        have HG:=Bc c;clear c k7;go_wp2;go_roundw
        case rel=>exact⟨q+1,_,⟨f2,f3,f4,f5,f6,f7⟩,Bd,rfl,Lt,HG,Bk (Rp X6 _ _) _,fun x hx=>(by first|(cases hx;done)|(obtain rfl:=Option.some.inj hx;exact⟨(n8.set2 X6 _ _).below (QN _),n9⟩)),((b9.setCell Fm _).setCell Fm _).alloc Fm _,Bk ((On Bd).trans P6) _,Bk ((On Bd).trans Z6) _⟩
        case measure=>simp[intOf];omega
      rw[Sp b8]at c;have m:(LV != 0)=true:=by simpa using b8
      obtain rfl:=c;clear b8 f1;go_wp2_with (refine Bwd Hd 212 (.tmp 1) Hd w.heap.size Hd 212 _ (0,0) _ P5 Bv2 Hd Tryz.infoPass ?_)
      refine(Ba k6).mono ?_;rintro e w6 ⟨u6,rfl,-,a0⟩;obtain⟨f2,f3,f4,f5,f6,f7⟩:=u6;have b9:=b7.trans (a0.mono k4);have o0:=b9.size;have Z6:=stay a0 Z5;have I6:=stay a0 I5;have j0:=Bb I6 0;have o4:=Pk I6;simp at j0;obtain⟨z0,z1,z2⟩:=cl3 Z6;simp at z0 z1 z2;obtain⟨q0,q1,q2⟩:=fr3 Z6;have lr:=Pk Z6;clear b0 b1 i0 i1 i2 a0;go_wp2_with fail;refine tb (.agg #[.i LV,.i 0,.i j]) (by simp[results,B0g,go_sem,z0,z1,z2,lr]) ?_;exact⟨rfl,by repeat (first|refine Bvq ?_ Fr _|refine Bwu ?_ (by first|omega|(simp;omega)) _|exact b9)⟩
   have c:=Ba HA;rw[Bvi Bd,Oq]at c;obtain rfl:=c;have kb:¬(q:Int)<(L.length:Int):=Bd;obtain⟨z0,z1,z2⟩:=cl3 CZ;simp at z0 z1 z2;obtain⟨q0,q1,q2⟩:=fr3 CZ;have lr:=Pk CZ;clear HA;go_wp2_with fail;refine tb (.agg #[.i 0,.i 0,.i 0]) (by simp[results,B0g,go_sem,z0,z1,z2]) ?_;exact⟨rfl,by repeat (first|refine Bvq ?_ Fr _|exact hB)⟩
def Bgh(b:PBd)(w:TW):Calls prog 109 #[.agg #[.s b.fa1 b.fl1 b.fc1,.s b.fa2 b.fl2 b.fc2],.agg #[.s (.p b.tg) b.T.length b.tc,.s b.ya b.yn b.yc],.agg #[.i b.cl,.i b.nm,.s b.pa b.pl b.pc,.i b.r1,.i b.r2,.i b.lo,.i b.st,.s b.ca b.cn b.cc,.s b.ha b.hl b.hc,.s b.ma b.ml b.mc],.s b.la b.L.length b.lc] w fun e c => e=.returned b.val/\Bl w c:=by
 obtain⟨f,g,h,j,l,m,q,t,ya,yn,yc,v,z,A,B,C,D,F,G,I,J,cn,K,N,O,Q,V,Y,Z,la,lc,T,L⟩:=b;simp only[PBd.val];go_in;go_wp2;refine tb (.agg #[.s f g h,.s j l m,.s (.p q) T.length t,.s ya yn yc,.i v,.i z,.s A B C,.i D,.i F,.i G,.i I,.s J cn K,.s N O Q,.s V Y Z,.s la L.length lc]) (by simp[results,results109,go_sem]) ?_;exact⟨rfl,Mq _ _ _ _ _⟩
def Fs (FR:Rd.Mth->Int × Int):Nat->List Rd.Mth->Int × Int × Int
 | _,[]=>(0,0,0)
 | k,m::r=>if (FR m).1≠0 then ((FR m).1,(k:Int),(FR m).2) else Fs FR (k+1) r
theorem Ek{w:World}{s j:Nat}{l b e f:Option Addr}{K g h i m p q t:Nat}{B v z A C:Int}{D F G I:Option Addr}{J L cn N O Q V Y:Nat}(hF:w.heap[u]?=some (O1 l K g b h i))(Z:w.heap[s]?=some (O2 e m p f q t))(hM:w.heap[j]?=some (O18 c B D J L v z A C F cn N G O Q I V Y)):(w.cell? ⟨u,0,none⟩=some (.slice l K g)/\w.cell? ⟨u,1,none⟩=some (.slice b h i))/\(w.cell? ⟨s,0,none⟩=some (.slice e m p)/\w.cell? ⟨s,1,none⟩=some (.slice f q t))/\w.cell? ⟨j,0,none⟩=some (.int .i64 c)/\w.cell? ⟨j,1,none⟩=some (.int .i64 B)/\w.cell? ⟨j,2,none⟩=some (.slice D J L)/\w.cell? ⟨j,3,none⟩=some (.int .i64 v)/\w.cell? ⟨j,4,none⟩=some (.int .i64 z)/\w.cell? ⟨j,5,none⟩=some (.int .i64 A)/\w.cell? ⟨j,6,none⟩=some (.int .i64 C)/\w.cell? ⟨j,7,none⟩=some (.slice F cn N)/\w.cell? ⟨j,8,none⟩=some (.slice G O Q)/\w.cell? ⟨j,9,none⟩=some (.slice I V Y):=by
 refine⟨⟨?_,?_⟩,⟨?_,?_⟩,?_,?_,?_,?_,?_,?_,?_,?_,?_,?_⟩
 all_goals first|(rw[Bb hF];rfl)|(rw[Bb Z];rfl)|(rw[Bb hM];rfl)
def Fv{P:Program}{e:Array Oper}{o:Oper}{a:Act}{w:TW}{K:Act->TW->Prop}{Q:Exit->Act->TW->Prop}{E:Prop}(f:o.guard=none)(ty:TypeId)(x y:Operand)(i:o.op=.store ty x y) (g:Nat)(b:Array Value)(j:a.eval x=.q g 0)(l:a.eval y=.agg b)(t:TypeId)(c:Array Value)(m:w.heap[g]?=some (.cells c t (0,0)))(p:(P.info? ty).map (·.size)=some b.size) (s:c.size=b.size)(v:b.all (·.oneCell')=true)(h:K (a.put o.dst undef) (w.setRow g b)):if Region.wanted o (yielded e a.tmps)=true then Oper.wp P o a w K Q else E:=by
 have z:Region.wanted o (yielded e a.tmps)=true:=by simp[Region.wanted,f]
 rw[Sp z];exact wp_store_row ty x y i g b j l t c m p s v h
def Nt{s:Nat}{v w:TW}(b:Below u v w)(f:u<=s)(c:Array Value):Below u v (w.setRow s c) :=
 ⟨b.os,b.tape,b.output,by rw[B0l];exact b.size,fun k e=>(Bz5 w s k c Bd).trans (b.block k e)⟩
def Li{w:TW}{G b:Array Value}{g:TypeId}(c:w.heap[u]?=some (.cells G g (0,0))):(w.setRow u b).heap[u]?=some (.cells b g (0,0)):=B05 w u G b g (0,0) c
def Ce{w:TW}{k:Nat}{G:Array Value}(h:k≠u):(w.setRow u G).heap[k]?=w.heap[k]?:=Bz5 w u k G h
def Bm4(a3 a6:TA)(a4 a5 a2 bm:Nat)(a9:List (Rd.Cls×Value))(c:List (Rd.Mth×Eh))(FR:Rd.Mth->Int×Int)(w:TW)(g7:a9.length<=6)(c9:Ex w bm (.s a3 a4 a5) a9)(i6:c.length<=1000)(d0:Eb w bm (.s a6 c.length a2) c) (d1:∀p∈c,p.1.code.length<=1000/\∀x∈p.1.code,0<=x) (d2:∀p∈c,∀(b:PBd) bb f,Bl w f->b.fa1=a3->b.fl1=a4->b.fc1=a5->b.fa2=a6->b.fl2=c.length->b.fc2=a2->b.T=Tr.tree (a9.map Prod.fst)->b.L=Cd.readL p.1.code->Dl f b.tg b.T->f.ownsRow w.heap.size 105 1 (.s b.ya b.yn b.yc) (7+a9.length) (Tr.fvals a9)->(⟨b.cl,b.nm,b.pa,b.pl,b.pc,b.r1,b.r2,b.lo,b.st,b.ca,b.cn,b.cc,b.ha,b.hl,b.hc,b.ma,b.ml,b.mc⟩:PM).is p.1 f bm->Hs f bb (.s b.la b.L.length b.lc) b.L->Calls prog 129 #[b.pval] f fun e g8=>e=.r (.agg #[.i (FR p.1).1,.i 0,.i (FR p.1).2])/\Bl f g8):Calls prog 80 #[.agg #[.s a3 a4 a5,.s a6 c.length a2]] w fun e f=>e=.r (.agg #[.i (Fs FR 0 (c.map Prod.fst)).1,.i (Fs FR 0 (c.map Prod.fst)).2.1,.i (Fs FR 0 (c.map Prod.fst)).2.2])/\Bl w f:=by
 have d3:=fun f (h:Bl w f)=>Sn a3 a6 a4 a5 c.length a2 bm a9 f g7 (c9.kp (Kp.of_below (e:=none) h) Ck Ck);have g9:Hid (∀f,Bl w f->Eb f bm (.s a6 c.length a2) c):=fun f h=>d0.kp (Kp.of_below (e:=none) h) Ck Ck Ck Ck Ck;generalize hR:Fs FR 0 (c.map Prod.fst)=R;have HR:Hid (Fs FR 0 ((c.map Prod.fst).drop 0)=R):=hR;have h1:=Bc d3;have h2:=Bc d2;have h3:=Bc d1;clear d3 d2 d1 hR c9 d0;have d4:=Bx w (O1 a3 a4 a5 a6 c.length a2) (O8 0 0 0);have F0:=Cb w (O1 a3 a4 a5 a6 c.length a2) (O8 0 0 0);have Z0:=Bv w (O1 a3 a4 a5 a6 c.length a2) (O8 0 0 0);have h4:((w.alloc (O1 a3 a4 a5 a6 c.length a2)).alloc (O8 0 0 0)).heap.size=w.heap.size+2:=Fr;go_in;go_wp2_with fail;refine(Ba h1 _ d4).mono ?_;rintro e w1 ⟨v,tc,ya,yn,yc,rfl,d5,d6,i7,b6⟩;generalize Tr.tree (a9.map Prod.fst)=T at *;have c1:=QB d4 b6;have d7:=c1.size;have lZ:=Pk (stay b6 Z0);have F1:=Bk (stay b6 F0) (O2 (.p v) T.length tc ya yn yc);have Z1:=Bk (stay b6 Z0) (O2 (.p v) T.length tc ya yn yc);have T1:=Bf w1 (O2 (.p v) T.length tc ya yn yc);have b5:=c1.alloc d7 (O2 (.p v) T.length tc ya yn yc);have d8:=d5.below (QN (O2 (.p v) T.length tc ya yn yc));have d9:=Ti (Cx d6 (Kp.of_below (e:=none) (QN (O2 (.p v) T.length tc ya yn yc))) Ck) (show w.heap.size<=_ by rw[h4];omega);clear b6 F0 Z0 d5 d6;have f1:=Bb F1 1;simp at f1;go_wp2
 go_loopw [16] (fun s wr=>∃q:Nat,q<=c.length/\s=.i (q:Int)/\Hid (Fs FR q ((c.map Prod.fst).drop q)=R)/\Bl w wr/\wr.heap[w.heap.size]?=some (O1 a3 a4 a5 a6 c.length a2)/\wr.heap[w.heap.size+1]?=some (O8 0 0 0)/\wr.heap[w1.heap.size]?=some (O2 (.p v) T.length tc ya yn yc)/\Dl wr v T/\wr.ownsRow w.heap.size 105 1 (.s ya yn yc) (7+a9.length) (Tr.fvals a9))
  (fun s _=>c.length-(intOf s).toNat)
 case atStart=>exact⟨0,Bd,rfl,HR,b5,F1,Z1,T1,d8,d9⟩
 case round=>
  clear HR b5 F1 Z1 T1 d8 d9 f1 c1 d7;obtain⟨q,hq,rfl,HR,hB,CF,CZ,CT,h5,h6⟩:=hrel;have h7:=hB.size;by_cases b9:q<c.length
  ·obtain⟨m,g,hg,i8,Et,hm,-⟩:=(Ba g9 _ hB).mth2 b9;obtain⟨y0,y1,y2,y3,y4,y5,y6,y7,y8,y9⟩:=Ub Et;have hd:(c.map Prod.fst).drop q=c[q].1::(c.map Prod.fst).drop (q+1):=by rw[Wr (by simpa using b9)];simp
   have hr:=Ba HR;rw[hd,Fs]at hr;have b3:=Ba h2 c[q] (Bvh b9);obtain⟨h8,h9⟩:=Ba h3 c[q] (Bvh b9);generalize c[q].1=x at *;have kb:(q:Int)<(c.length:Int):=Bd;have f0:=hm.cn;obtain⟨z,A,B,D,F,G,I,J,N,j,cn,l,O,Q,V,Y,Z,mc⟩:=m;simp only at y0 y1 y2 y3 y4 y5 y6 y7 y8 y9 f0;subst f0;have i0:=hB.alloc h7 (O18 z A B D F G I J N j x.code.length l O Q V Y Z mc);have f2:=Ap x.code j l bm (wr.alloc (O18 z A B D F G I J N j x.code.length l O Q V Y Z mc)) h8 h9 ((hm.below (QN (O18 z A B D F G I J N j x.code.length l O Q V Y Z mc))).code);have f3:=Bc f2;have f4:=Bc b3;have f5:=Bc hr;have f6:=Bk CF (O18 z A B D F G I J N j x.code.length l O Q V Y Z mc);have f7:=Bk CZ (O18 z A B D F G I J N j x.code.length l O Q V Y Z mc);have f8:=Bk CT (O18 z A B D F G I J N j x.code.length l O Q V Y Z mc);have f9:=Bf wr (O18 z A B D F G I J N j x.code.length l O Q V Y Z mc);subst hg;clear f2 b3 hr hd Et HR;go_wp2_with fail;refine(Ba f3).mono ?_;rintro e t ⟨la,lc,rfl,g0,b2⟩;have b5:=QB i0 b2;have i1:=b5.size;have b0:=stay b2 f6;have g1:=stay b2 f7;have a7:=stay b2 f8;have b1:=stay b2 f9;have i2:=Pk b1;have i3:=Pk a7;have c2:=fun w=>Bgh ⟨a3,a4,a5,some ⟨g,0,none⟩,c.length,a2,v,tc,ya,yn,yc,z,A,B,D,F,G,I,J,N,j,x.code.length,l,O,Q,V,Y,Z,mc,la,lc,T,Cd.readL x.code⟩ w;simp only[PBd.val]at c2;have c3:=Bc c2;clear c2 f6 f7 f8 f9
   go_upto_region 6 with fail
   go_cut [9] from 17 to 45 (fun s9 wx=>∃pb,s9=.q pb 0/\wx.heap[pb]?=some (O26 (.p v) T.length tc ya yn yc z A B D F G I J N j x.code.length l O Q V Y Z mc la (Cd.readL x.code).length lc a3 a4 a5 (.p g) c.length a2 (.p v) T.length tc ya yn yc z A B D F G I J N j x.code.length l O Q V Y Z mc la (Cd.readL x.code).length lc)/\Bl t wx)
   case first=>
    go_wp2;refine Bvz (S:=(fun f=>(f.C w.heap.size 0 (.s a3 a4 a5)/\f.C w.heap.size 1 (.s (.p g) c.length a2))/\(f.C w1.heap.size 0 (.s (.p v) T.length tc)/\f.C w1.heap.size 1 (.s ya yn yc))/\f.C wr.heap.size 0 (.i z)/\f.C wr.heap.size 1 (.i A)/\f.C wr.heap.size 2 (.s B D F)/\f.C wr.heap.size 3 (.i G)/\f.C wr.heap.size 4 (.i I)/\f.C wr.heap.size 5 (.i J)/\f.C wr.heap.size 6 (.i N)/\f.C wr.heap.size 7 (.s j x.code.length l)/\f.C wr.heap.size 8 (.s O Q V)/\f.C wr.heap.size 9 (.s Y Z mc))) Le (Ek b0 a7 b1) (fun a0=>?_);refine tq 0 (.agg #[.s (.p v) T.length tc,.s ya yn yc]) a0 ?_;refine tq 1 (.agg #[.i z,.i A,.s B D F,.i G,.i I,.i J,.i N,.s j x.code.length l,.s O Q V,.s Y Z mc]) a0 ?_;refine tq 2 (.s la (Cd.readL x.code).length lc) a0 ?_;refine tq 3 (.agg #[.s a3 a4 a5,.s (.p g) c.length a2]) a0 ?_;refine tq 4 (.agg #[.s (.p v) T.length tc,.s ya yn yc]) a0 ?_;refine tq 5 (.agg #[.i z,.i A,.s B D F,.i G,.i I,.i J,.i N,.s j x.code.length l,.s O Q V,.s Y Z mc]) a0 ?_;refine tq 6 (.s la (Cd.readL x.code).length lc) a0 ?_;refine Bw7 (rs:=[7,9]) Le Fr ?_;refine Bv3 (o:=⟨_,_,_,_,_,_⟩) rfl (fun K hK=>?_) (Bv3 (o:=⟨_,_,_,_,_,_⟩) rfl (fun K hK=>?_) Bw2)
    ·go_simp;refine Qm (Ba c3 _) ?_;intro w5 a1;have c4:t.heap.size<=w5.heap.size:=a1.size
     try dsimp only
     clear a0;refine hK.out _ _ (Ek (by exact stay a1 (show t.drew.heap[_]?=_ from b0)) (by exact stay a1 (show t.drew.heap[_]?=_ from a7)) (by exact stay a1 (show t.drew.heap[_]?=_ from b1))) (fun a0=>?_);clear hK K
     try simp only[QX]
     refine tq 8 (.agg #[.s (.p v) T.length tc,.s ya yn yc,.i z,.i A,.s B D F,.i G,.i I,.i J,.i N,.s j x.code.length l,.s O Q V,.s Y Z mc,.s la (Cd.readL x.code).length lc,.s a3 a4 a5,.s (.p g) c.length a2,.s (.p v) T.length tc,.s ya yn yc,.i z,.i A,.s B D F,.i G,.i I,.i J,.i N,.s j x.code.length l,.s O Q V,.s Y Z mc,.s la (Cd.readL x.code).length lc]) a0 ?_;refine tr 9 fun K hK=>?_;go_simp;clear a0;refine hK.out _ _ (Ek (by exact Bk (stay a1 (show t.drew.heap[_]?=_ from b0)) _) (by exact Bk (stay a1 (show t.drew.heap[_]?=_ from a7)) _) (by exact Bk (stay a1 (show t.drew.heap[_]?=_ from b1)) _)) (fun a0=>?_);clear hK K
     try simp only[QX]
     have b7:=Bf w5 (O26 none 0 0 none 0 0 0 0 none 0 0 0 0 0 0 none 0 0 none 0 0 none 0 0 none 0 0 none 0 0 none 0 0 none 0 0 none 0 0 0 0 none 0 0 0 0 0 0 none 0 0 none 0 0 none 0 0 none 0 0);refine tr 10 fun K hK=>?_;refine Fv Hd 212 _ _ Hd w5.heap.size #[.s (.p v) T.length tc,.s ya yn yc,.i z,.i A,.s B D F,.i G,.i I,.i J,.i N,.s j x.code.length l,.s O Q V,.s Y Z mc,.s la (Cd.readL x.code).length lc,.s a3 a4 a5,.s (.p g) c.length a2,.s (.p v) T.length tc,.s ya yn yc,.i z,.i A,.s B D F,.i G,.i I,.i J,.i N,.s j x.code.length l,.s O Q V,.s Y Z mc,.s la (Cd.readL x.code).length lc] Hd Hd 212 _ b7 Tryz.infoPass Hd (by simp[Value.oneCell']) ?_;clear a0;refine hK.out _ _ (Ek ((Ce Bd).trans (Bk (stay a1 (show t.drew.heap[_]?=_ from b0)) _)) ((Ce Bd).trans (Bk (stay a1 (show t.drew.heap[_]?=_ from a7)) _)) ((Ce Bd).trans (Bk (stay a1 (show t.drew.heap[_]?=_ from b1)) _))) (fun a0=>?_);clear hK K
     try simp only[Act.put]
     refine Bv9 Le ?_ _;go_wp2
     go_meet
     case rel=>exact⟨w5.heap.size,rfl,Li b7,Nt (((Vm _ _).drew.trans a1).alloc c4 _) c4 _⟩
    go_simp;clear a0;refine hK.out _ _ (Ek (by exact Bk (show t.drew.heap[_]?=_ from b0) _) (by exact Bk (show t.drew.heap[_]?=_ from a7) _) (by exact Bk (show t.drew.heap[_]?=_ from b1) _)) (fun a0=>?_);clear hK K
    try simp only[QX]
    refine tr 7 fun K hK=>?_;go_simp;refine Qm (Ba c3 _) ?_;intro w5 a1;have c4:t.heap.size+1<=w5.heap.size:=by have:=a1.size;simp at this;exact this
    try dsimp only
    clear a0;refine hK.out _ _ (Ek (by exact stay a1 (Bk (show t.drew.heap[_]?=_ from b0) _)) (by exact stay a1 (Bk (show t.drew.heap[_]?=_ from a7) _)) (by exact stay a1 (Bk (show t.drew.heap[_]?=_ from b1) _))) (fun a0=>?_);clear hK K
    try simp only[QX]
    refine tq 8 (.agg #[.s (.p v) T.length tc,.s ya yn yc,.i z,.i A,.s B D F,.i G,.i I,.i J,.i N,.s j x.code.length l,.s O Q V,.s Y Z mc,.s la (Cd.readL x.code).length lc,.s a3 a4 a5,.s (.p g) c.length a2,.s (.p v) T.length tc,.s ya yn yc,.i z,.i A,.s B D F,.i G,.i I,.i J,.i N,.s j x.code.length l,.s O Q V,.s Y Z mc,.s la (Cd.readL x.code).length lc]) a0 ?_;have b7:=stay a1 (Bf t.drew (O26 none 0 0 none 0 0 0 0 none 0 0 0 0 0 0 none 0 0 none 0 0 none 0 0 none 0 0 none 0 0 none 0 0 none 0 0 none 0 0 0 0 none 0 0 0 0 0 0 none 0 0 none 0 0 none 0 0 none 0 0));refine tr 10 fun K hK=>?_;refine Fv Hd 212 _ _ Hd t.heap.size #[.s (.p v) T.length tc,.s ya yn yc,.i z,.i A,.s B D F,.i G,.i I,.i J,.i N,.s j x.code.length l,.s O Q V,.s Y Z mc,.s la (Cd.readL x.code).length lc,.s a3 a4 a5,.s (.p g) c.length a2,.s (.p v) T.length tc,.s ya yn yc,.i z,.i A,.s B D F,.i G,.i I,.i J,.i N,.s j x.code.length l,.s O Q V,.s Y Z mc,.s la (Cd.readL x.code).length lc] Hd Hd 212 _ b7 Tryz.infoPass Hd (by simp[Value.oneCell']) ?_;clear a0;refine hK.out _ _ (Ek ((Ce Bd).trans (stay a1 (Bk (show t.drew.heap[_]?=_ from b0) _))) ((Ce Bd).trans (stay a1 (Bk (show t.drew.heap[_]?=_ from a7) _))) ((Ce Bd).trans (stay a1 (Bk (show t.drew.heap[_]?=_ from b1) _)))) (fun a0=>?_);clear hK K
    try simp only[Act.put]
    refine Bv9 Le ?_ _;go_wp2
    go_meet
    case rel=>exact⟨t.heap.size,rfl,Li b7,Nt ((((Vm _ _).drew).alloc (Wf _) _).trans (a1.mono Fr)) (Wf _) _⟩
   case rest=>
    obtain⟨pb,rfl,CP,b4⟩:=hcut;have c0:=b5.trans (b4.mono i1);have g2:=c0.size;have c5:Bl wr wc:=((QN (O18 z A B D F G I J N j x.code.length l O Q V Y Z mc)).trans (b2.mono Fr)).trans (b4.mono (by have:=b2.size;simp at this;omega));have i4:=stay b4 b0;have c6:=stay b4 g1;have i5:=stay b4 a7;have g3:=g0.kp (Kp.of_below (e:=none) b4) Ck;have g4:=h5.below c5;have g5:=Cx h6 (Kp.of_below (e:=none) c5) Ck;have b3:=Ba f4 ⟨a3,a4,a5,some ⟨g,0,none⟩,c.length,a2,v,tc,ya,yn,yc,z,A,B,D,F,G,I,J,N,j,x.code.length,l,O,Q,V,Y,Z,mc,la,lc,T,Cd.readL x.code⟩ _ wc c0 rfl rfl rfl rfl rfl rfl rfl rfl g4 g5 (hm.below c5) g3;simp only[PBd.pval]at b3;have hr:=Ba f5;generalize FR x=fr at *;obtain⟨c7,fr2⟩:=fr;simp only at b3 hr;have g6:=Bc b3;have i9:=Pk c6;clear b3 f5 f4 f3 c3 b0 g1 a7 b1 g0 b2 b4 b5 hm g3 i2 i3 y0 y1 y2 y3 y4 y5 y6 y7 y8 y9;by_cases h0:c7=0
    ·rw[Pf (by simpa using h0)]at hr;have HG:Hid (Fs FR (q+1) ((c.map Prod.fst).drop (q+1))=R):=hr;subst h0;clear hr;go_wp2_with (refine Bwd Hd 212 (.tmp 9) Hd pb Hd 212 _ (0,0) _ CP Bv2 Hd Tryz.infoPass ?_)
     refine Qm (Ba g6) ?_;intro w7 a8;have b8:=c0.trans (a8.mono g2);go_wp2;go_roundw
     case rel=>exact⟨q+1,Bd,Lt,HG,b8.alloc b8.size _,Bk (stay a8 i4) _,Bk (stay a8 c6) _,Bk (stay a8 i5) _,(g4.below a8).below (QN _),Cx (Cx g5 (Kp.of_below (e:=none) a8) Ck) (Kp.of_below (e:=none) (QN _)) Ck⟩
     case measure=>simp[intOf];omega
    rw[Sp h0]at hr;obtain rfl:=hr;have j0:(c7 != 0)=true:=by simpa using h0
    clear h0;go_wp2_with (refine Bwd Hd 212 (.tmp 9) Hd pb Hd 212 _ (0,0) _ CP Bv2 Hd Tryz.infoPass ?_)
    refine Qm (Ba g6) ?_;intro w7 a8;have b8:=c0.trans (a8.mono g2);have j1:=b8.size;have c8:=stay a8 c6;obtain⟨z0,z1,z2⟩:=cl3 c8;simp at z0 z1 z2;obtain⟨q0,q1,q2⟩:=fr3 c8;have lr:=Pk c8;clear a8;go_wp2_with fail;refine tb (.agg #[.i c7,.i (q:Int),.i fr2]) (by simp[results,results80,go_sem,z0,z1,z2,lr]) ?_;exact⟨rfl,by repeat (first|refine Bvq ?_ Fm _|refine Bvq ?_ Fr _|refine Bwu ?_ (by first|omega|(simp;omega)) _|exact b8)⟩
  have hr:=Ba HR;rw[Bvi Fm,Fs]at hr;obtain rfl:=hr;have kb:¬(q:Int)<(c.length:Int):=Bd;obtain⟨z0,z1,z2⟩:=cl3 CZ;simp at z0 z1 z2;obtain⟨q0,q1,q2⟩:=fr3 CZ;have lr:=Pk CZ;clear HR;go_wp2_with fail;refine tb (.agg #[.i 0,.i 0,.i 0]) (by simp[results,results80,go_sem,z0,z1,z2]) ?_;exact⟨rfl,by repeat (first|refine Bvq ?_ Fr _|exact hB)⟩
def Mb (P V:Int × Int × Int):Int × Int × Int:=if P.1≠0 then P else if V.1≠0 then V else (0,0,0)
theorem Bs2{w:World}{k:Nat}{a B:Int}(h:w.heap[k]?=some (O8 a B c)):w.cell? ⟨k,0,none⟩=some (.int .i64 a)/\w.cell? ⟨k,1,none⟩=some (.int .i64 B)/\w.cell? ⟨k,2,none⟩=some (.int .i64 c):=by
 refine⟨?_,?_,?_⟩
 all_goals (rw[Bb h];rfl)
def Bez(s:ByteArray)(V:Int×Int×Int)(w:TW)(hs:s.size<=maxLen) (a5:(Ft s.data.toList).1=0->∀c f j l m p Y t v z,Bl w z->t.map Prod.fst=(Rd.read s.data.toList).1.classes->Ex z Y (.s c f j) t->v.map Prod.fst=(Rd.read s.data.toList).1.methods->Eb z Y (.s l m p) v->Calls prog 80 #[.agg #[.s c f j,.s l m p]] z fun e d7=>e=.r (.agg #[.i V.1,.i V.2.1,.i V.2.2])/\Bl z d7):Calls prog 53 #[.string s] w fun e z=>∃c f j l m p,e=.r (.tuple #[.agg #[.s c f j,.s l m p],.agg #[.i (Mb (Ft s.data.toList) V).1,.i (Mb (Ft s.data.toList) V).2.1,.i (Mb (Ft s.data.toList) V).2.2]])/\((Mb (Ft s.data.toList) V).1=0->∃Y t v,t.map Prod.fst=(Rd.read s.data.toList).1.classes/\Ex z Y (.s c f j) t/\v.map Prod.fst=(Rd.read s.data.toList).1.methods/\Eb z Y (.s l m p) v)/\Bl w z:=by
 have a6:=fun w=>Bdy s w hs;unfold Mb;generalize Ft s.data.toList=P at *;generalize Rd.read s.data.toList=q at *;obtain⟨P1,B,C⟩:=P;obtain⟨V1,V2,V3⟩:=V;simp only at a6 a5 ⊢;have a3:=Bc a6;have a7:=Bc a5;clear a6 a5;have b6:=Bx w (O1 none 0 0 none 0 0) (O8 0 0 0);have C0:=Cb w (O1 none 0 0 none 0 0) (O8 0 0 0);have D0:=Bv w (O1 none 0 0 none 0 0) (O8 0 0 0);by_cases Z:P1=0
 ·subst Z;by_cases h2:V1=0;subst h2;simp only[ne_eq,not_true_eq_false,Bxk]
  rotate_left
  have f2:(V1 != 0)=true:=by simpa using h2
  have d8:=Bc h2;simp only[ne_eq,not_true_eq_false,Bxk,h2,not_false_eq_true,By3];clear h2
  rotate_left
  all_goals
   go_in;go_wp2_with fail;refine(Ba a3 _).mono ?_;rintro e I ⟨c,f,j,l,m,p,rfl,b7,A⟩;obtain⟨t,v,a8,b8,a9,b9⟩:=b7 (by trivial);have a0:=QB b6 A;have c3:=a0.size;have D:=stay A C0;have F:=stay A D0;have f3:=Pk F;have b2:Bl I ((I.alloc (O1 c f j l m p)).alloc (O8 0 B C)):=Bx _ _ _;have c4:=a0.trans (b2.mono c3);have c5:=b8.kp (Kp.of_below (e:=none) b2) Ck Ck;have c6:=b9.kp (Kp.of_below (e:=none) b2) Ck Ck Ck Ck Ck;have c7:=Ba a7 (by trivial) c f j l m p _ t v _ c4 a8 c5 a9 c6;have HF:=Bc c7;have c8:=Cb I (O1 c f j l m p) (O8 0 B C);have a4:=Bv I (O1 c f j l m p) (O8 0 B C);have C2:=Bk (Bk D (O1 c f j l m p)) (O8 0 B C);have D2:=Bk (Bk F (O1 c f j l m p)) (O8 0 B C);have c9:=Bc a8;have d3:=Bc a9;clear c7 a7 a3 A C0 D0 D F b8 b9 a8 a9 b7;go_wp2_with fail;refine Qb (Ba HF) c4 ?_;intro w3 G b3;have f4:=b3.size;have C3:=stay G C2;have D3:=stay G D2;have d4:=stay G c8;have J:=stay G a4;have b4:=c5.kp (Kp.of_below (e:=none) G) Ck Ck;have b5:=c6.kp (Kp.of_below (e:=none) G) Ck Ck Ck Ck Ck;obtain⟨b0,b1⟩:=cl2 d4;obtain⟨k0,k1,k2⟩:=cl3 J;obtain⟨j0,j1,j2⟩:=fr3 J;have lA:=Pk J;have lB:=Pk d4;simp at b0 b1 k0 k1 k2;have K:=Bb C3 0;have L:=Bb C3 1;obtain⟨N,O,Q⟩:=cl3 D3;obtain⟨e0,e1⟩:=fr2 C3;obtain⟨g0,g1,g2⟩:=fr3 D3;have lC:=Pk C3;have lD:=Pk D3;simp at K L N O Q;clear G C2 D2 c8 a4 HF
  ·have K1:=Kp.set (b:=w.heap.size+2) (i:=0) J (.i 0);have K2:=Kp.set (b:=w.heap.size+2) (i:=1) (Bq (i:=0) J (.i 0)) (.i V2);have K3:=Kp.set (b:=w.heap.size+2) (i:=2) (Bq (i:=1) (Bq (i:=0) J (.i 0)) (.i V2)) (.i V3);have KK:=((((((K1.trans K2).trans K3).trans (Kp.set_lo (i:=0) (g:=w.heap.size) Bd (.s c f j))).trans (Kp.set_lo (i:=1) (g:=w.heap.size) Bd (.s l m p))).trans (Kp.set_lo (i:=0) (g:=w.heap.size+1) Bd (.i 0))).trans (Kp.set_lo (i:=1) (g:=w.heap.size+1) Bd (.i 0))).trans (Kp.set_lo (i:=2) (g:=w.heap.size+1) Bd (.i 0));have d5:Ex w3 (w.heap.size+2) (.s c f j) t:=by simpa using b4
   have d6:Eb w3 (w.heap.size+2) (.s l m p) v:=by simpa using b5
   have d9:=d5.kp KK Ck Ck;have f0:=d6.kp KK Ck Ck Ck Ck Ck;clear K1 K2 K3 KK d5 d6 b4 b5;go_wp2_with fail;refine tb (.tuple #[.agg #[.s c f j,.s l m p],.agg #[.i 0,.i 0,.i 0]]) (by simp[results,B0p,go_sem,K,L,N,O,Q]) ?_;exact⟨c,f,j,l,m,p,rfl,fun _=>⟨_,t,v,Ba c9,d9,Ba d3,f0⟩,by repeat (first|(with_reducible exact b3)|(with_reducible refine Bvq ?_ Fm _)|(with_reducible refine Bvq ?_ Fr _))⟩
  clear b4 b5 c9 d3;go_wp2
  go_region
  all_goals
   go_wp2_with fail;refine tb (.tuple #[.agg #[.s none 0 0,.s none 0 0],.agg #[.i V1,.i V2,.i V3]]) (by simp[results,B0p,go_sem,K,L,N,O,Q]) ?_;exact⟨none,0,0,none,0,0,rfl,fun h=>(by first|exact False.elim h|exact absurd h (Ba d8)),by repeat (first|(with_reducible exact b3)|(with_reducible refine By2 ?_)|(with_reducible refine Bvq ?_ Fm _)|(with_reducible refine Bvq ?_ Fr _))⟩
 have f5:(P1 != 0)=true:=by simpa using Z
 have f1:=Bc Z;simp only[ne_eq,Z,not_false_eq_true,By3];go_in;go_wp2_with fail;refine(Ba a3 _).mono ?_;rintro e I ⟨c,f,j,l,m,p,rfl,-,A⟩;have a0:=QB b6 A;have c3:=a0.size;have D:=stay A C0;have F:=stay A D0;have K:=Bb D 0;have L:=Bb D 1;obtain⟨N,O,Q⟩:=cl3 F;obtain⟨e0,e1⟩:=fr2 D;obtain⟨g0,g1,g2⟩:=fr3 F;have lC:=Pk D;have lD:=Pk F;simp at K L N O Q;have a4:=Bf (I.alloc (O1 c f j l m p)) (O8 P1 B C);have s0:=Bs2 a4;clear Z a7 a3 A;go_wp2
 go_region
 all_goals
  go_wp2_with fail;refine tb (.tuple #[.agg #[.s none 0 0,.s none 0 0],.agg #[.i P1,.i B,.i C]]) (by simp[results,B0p,go_sem,K,L,N,O,Q,lC,lD]) ?_;exact⟨none,0,0,none,0,0,rfl,fun h=>(by first|exact False.elim h|exact absurd h (Ba f1)),by repeat (first|(with_reducible exact a0)|(with_reducible refine By2 ?_)|(with_reducible refine Bwu ?_ Fm _)|(with_reducible refine Bvq ?_ Fr _))⟩
def Bo4(s:ByteArray)(V:Int×Int×Int)(w:TW)(A:s.size<=maxLen) (q:(Ft s.data.toList).1=0->∀c f g h j l t v z b,Bl w b->v.map Prod.fst=(Rd.read s.data.toList).1.classes->Ex b t (.s c f g) v->z.map Prod.fst=(Rd.read s.data.toList).1.methods->Eb b t (.s h j l) z->Calls prog 80 #[.agg #[.s c f g,.s h j l]] b fun e B=>e=.r (.agg #[.i V.1,.i V.2.1,.i V.2.2])/\Bl b B):Calls prog 20 #[.string s] w fun e b=>e=.r (.tuple #[.i (Mb (Ft s.data.toList) V).1,.i (Mb (Ft s.data.toList) V).2.1,.i (Mb (Ft s.data.toList) V).2.2])/\Bl w b:=by
 have m:=Bez s V w A q;generalize Mb (Ft s.data.toList) V=R at *;obtain⟨C,D,F⟩:=R;simp only at m ⊢;have G:=Bc m;clear m q;go_in;go_wp2_with fail;refine(Ba G).mono ?_;rintro e J ⟨c,f,g,h,j,l,rfl,-,p⟩;have I:=(p.alloc p.size (O1 c f g h j l)).alloc (by have:=p.size;simp;omega) (O8 C D F);go_wp2
 go_region
 all_goals
  go_wp2;go_ret3;exact⟨rfl,I.drew⟩
def Kl (CR:Rd.Mth->Int × Int):Nat->List Rd.Mth->Int × Int × Int
 | _,[]=>(0,0,0)
 | k,m::r=>if (CR m).1≠0 then ((CR m).1,(k:Int),(CR m).2) else Kl CR (k+1) r
def Wv (P V:Int × Int × Int):Int × Int × Int:=if P.1≠0 then P else V
def Bta{α β:Type}{l:List (α×β)}{r:List α}(h:l.map Prod.fst=r){p:α->Prop}(b:∀x∈r,p x):∀y∈l,p y.1:=fun y c=>b y.1 (by rw[<- h];exact List.mem_map.2 ⟨y,c,rfl⟩)
def Ey (T:TI)(x:Be):Prop:=(∀t∈x.locals,Tr.Arg T t.1 t.2)/\∀t∈x.stack,Tr.Arg T t.1 t.2
def Bfx(T:TI)(a b:TP)(h:a.length=b.length):Ig T a b=Nz T a b:=by
 unfold Ig;rw[Pf Bd,h,Byx,List.drop_zero]
def V8(e:Tr.Ok z){y:Be}(f:Ey z x)(h:Ey z y):Dk z x y=Hx z x y:=by
 unfold Dk Hx Mu;by_cases b:x.stack.length=y.stack.length
 ·rw[Pf (fun g=>g b),Sp b];by_cases c:x.locals.length=y.locals.length;·rw[Pf (fun g=>g c),Sp c,Bfx z _ _ c,Bfx z _ _ b,Pg e _ _ f.1 h.1,Pg e _ _ f.2 h.2]
  rw[Sp c,Pf c];rfl
 rw[Sp b,Pf b,Bool.and_false]
def Bpk(T:TI)(b:List Rd.Cls)(c:7<=b.length)(e:∀i,i<7->(b.getD i ⟨0,[]⟩).fields=[])(f:List Rd.Mth)(g:Int×Int)(op:Int)(n:Nat)(h:op=17\/op=18->n<(Rf.fieldsTo T b (b.length-7)).length):Ij (b.map Rd.Cls.fields) f g op (n:Int)=Cu (Rf.fieldsTo T b (b.length-7)) f g op (n:Int):=by
 unfold Ij Cu;by_cases j:op=17;·subst j;rw[Bbo T b c e n (h (.inl rfl)),Bvn]
 by_cases l:op=18;·subst l;rw[Bbo T b c e n (h (.inr rfl)),Bvn]
 simp only[j,l,Bxk]
def Bnw(T:TI)(b:List Rd.Cls)(f:7<=b.length)(g:∀i,i<7->(b.getD i ⟨0,[]⟩).fields=[])(c:List Rd.Mth)(op:Int)(n:Nat)(h:op=17->n<(Rf.fieldsTo T b (b.length-7)).length):Hj (b.map Rd.Cls.fields) c op (n:Int)=Fg (Rf.fieldsTo T b (b.length-7)) c op (n:Int):=by
 unfold Hj Fg;by_cases e:op=17;·subst e;rw[Bbo T b f g n (h rfl),Bvn];simp
 simp only[e,Bxk];have:(op=0\/op=24\/op=7\/op=8\/op=9\/op=10)<->(op=0\/op=7\/op=8\/op=9\/op=10\/op=24):=Bd;simp only[this]
def Am{mp:Int->Option Be}(h:mp c=none):Iv z mp x c=true:=by unfold Iv;rw[h];rfl
def Ss(e:Tr.Ok z){mp:Int->Option Be}{b:Be}(h:mp c=some b)(f:Ey z x)(g:Ey z b):Iv z mp x c=Dk z x b:=by
 unfold Iv;rw[h,V8 e f g];rfl
def Bek{mp:Int->Option Be}(h:mp c=none):J8 z mp x c=8:=by unfold J8;rw[h];rfl
def Bgy(e:Tr.Ok z){mp:Int->Option Be}{b:Be}(h:mp c=some b)(f:Ey z x)(g:Ey z b)(i:Dk z x b=false):J8 z mp x c=9:=by
 unfold J8;rw[Pf (by rw[h];simp),Sp (by rw[Ss e h f g];exact i)]
def Bel(e:Tr.Ok z){mp:Int->Option Be}{b:Be}(h:mp c=some b)(f:Ey z x)(g:Ey z b)(i:Dk z x b=true):J8 z mp x c=0:=by
 unfold J8;rw[Pf (by rw[h];simp),Pf (by rw[Ss e h f g,i];simp)]
def Bay(i:Tr.Ok z)(mp:Int->Option Be)(j:∀q b,mp q=some b->Ey z b)(p:Int)(c:TP)(s:∀t∈c,Tr.Arg z t.1 t.2):∀l:List Rd.Hnd,(∀h∈l,Tr.Arg z 3 h.cl) ->
  Hg z mp p c l=Kk z mp p c l
 | [],_=>rfl
 | h::r,hh=>by
  have C:=Bay i mp j p c s r (fun x g=>hh x (by simp[g]));rw[Hg,Kk,C];unfold El;by_cases v:p<h.frm;·have e:decide (h.frm<=p)=false:=Fm;rw[e,Bx0,Sp rfl,Sp v]
  have e:decide (h.frm<=p)=true:=Fm;rw[e,Bxn,Pf v];by_cases A:h.til<=p;·have m:decide (p<h.til)=false:=Fm;rw[m,Sp rfl,Sp A]
  have m:decide (p<h.til)=true:=Fm;rw[m,Pf Fr,Pf A];cases f:mp h.target with
  | none =>
   rw[Bek f,Sp (show (8:Int)≠0 by decide),Sp (show (none:Option Be).isSome=false from rfl)]
  | some b =>
   have g:Ey z ⟨c,[(3,h.cl)]⟩:=⟨s,fun t D=>by obtain rfl:=List.mem_singleton.1 D;exact hh h Fr⟩;have F:Ef (some b)=b:=rfl;rw[F,Pf (show ¬(some b).isSome=false by simp)];cases B:Dk z ⟨c,[(3,h.cl)]⟩ b with
   | false=>rw[Bgy i f g (j _ _ f) B,Sp (show (9:Int)≠0 by decide),Sp rfl]
   | true=>rw[Bel i f g (j _ _ f) B,Pf (show ¬(0:Int)≠0 by decide),Pf (show ¬true=false by decide)]
def Bsr(l:Tr.Ok z)(mp:Int->Option Be)(m:∀q b,mp q=some b->Ey z b)(H:Int)(B:Option Be)(A:∀y,B=some y->Ey z y)(op n f g:Int):Tn z mp H B op n f g=Nq z mp H B op n f g:=by
 unfold Tn Nq;by_cases h:H≠0;·rw[Sp h,Sp h]
 rw[Pf h,Pf h];cases B with
 | none=>rfl
 | some y =>
  have p:=A y rfl;have e:Ef (some y)=y:=rfl;rw[Pf (show ¬(some y).isSome=false by simp),Pf (show ¬(some y).isSome=false by simp),e];have v:(if Dz op=false then 0 else To z mp g y f)=(if Dz op=false then 0 else if g<=f then 11 else if (mp f).isSome=true/\Dk z y (Ef (mp f))=false then 9 else 0):=by
   by_cases i:Dz op=false;·rw[Sp i,Sp i]
   rw[Pf i,Pf i];unfold To;by_cases j:g<=f;·rw[Sp j,Sp j]
   rw[Pf j,Pf j];cases c:mp f with
   | none=>rw[Am c,Pf Fr,Pf Fr]
   | some b =>
    have s:Ef (some b)=b:=rfl;rw[Ss l c p (m _ _ c),s];cases t:Dk z y b with
    | false=>rw[Sp rfl,Sp ⟨rfl,rfl⟩]
    | true=>rw[Pf Fr,Pf Fr]
  cases C:Dx op with
  | false=>rw[Pf (show ¬(false=true/\J8 z mp y n≠0) by simp),Pf (show ¬(false=true/\(mp n).isSome=false) by simp),Pf (show ¬(false=true/\Dk z y (Ef (mp n))=false) by simp)];exact v
  | true =>
   cases c:mp n with
   | none=>rw[Bek c,Sp (show true=true/\(8:Int)≠0 by decide),Sp (show true=true/\(none:Option Be).isSome=false from ⟨rfl,rfl⟩)]
   | some b =>
    have s:Ef (some b)=b:=rfl;rw[s];cases t:Dk z y b with
    | false=>rw[Bgy l c p (m _ _ c) t,Sp (show true=true/\(9:Int)≠0 by decide),Pf (show ¬(true=true/\(some b).isSome=false) by simp),Sp (show true=true/\false=false from ⟨rfl,rfl⟩)]
    | true =>
     rw[Bel l c p (m _ _ c) t,Pf (show ¬(true=true/\(0:Int)≠0) by decide),Pf (show ¬(true=true/\(some b).isSome=false) by simp),Pf (show ¬(true=true/\true=false) by decide)];exact v
def Bb0(c:TI):∀(k p:Nat),(∀q∈Cd.starts c k p,p<=q)/\(Cd.starts c k p).Pairwise (· < ·)
 | 0,p=>by simp[Cd.starts]
 | k+1,p=>by
  have g:=Cd.wd_bd (c.getD p 0);obtain⟨e,f⟩:=Bb0 c k (p+Cd.wd (c.getD p 0));unfold Cd.starts
  split
  ·refine⟨fun q b=>?_,List.pairwise_cons.2 ⟨fun q b=>?_,f⟩⟩
   ·rcases List.mem_cons.1 b with rfl|b
    ·exact Wf _
    have:=e q b;omega
   have:=e q b;omega
  simp
def Bd4(c:TI):(Cd.places c).Pairwise (· < ·):=(Bb0 c c.length 0).2
def Bdq(mp:Int->Option Be)(j:Nat->Be->Option Be)(b:Nat->Be->Int)(c:TI)(l:Cd.Ins->Be->Int)(m:Cd.Ins->Be->Option Be)(P:Be->Prop)(v:∀q z,mp q=some z->P z) :
  ∀(s:List Nat),(∀p∈s,∀x,P x->l (Cd.insAt c p) x=b p x/\(b p x=0->∃y,j p x=some y/\m (Cd.insAt c p) x=some y/\P y))->∀o:Option Be,(∀x,o=some x->P x) ->
   Oq mp l m (s.map (Cd.insAt c)) o=Ty (fun p=>mp (p:Int)) j (fun p=>Dz (c.getD p 0)) b s o
 | [],_,_,_=>rfl
 | p::r,h,o,ho=>by
  have A:=Bdq mp j b c l m P v r (fun q e=>h q (by simp[e]));rw[Bwm,Oq,Ty];have B:(Cd.insAt c p).place=(p:Int):=rfl;have C:(Cd.insAt c p).op=c.getD p 0:=rfl;rw[B,C];cases f:(mp (p:Int)).or o with
  | none=>exact A none (fun x D=>by cases D)
  | some x =>
   have F:P x:=by
    cases e:mp (p:Int) with
    | none=>rw[e]at f;exact ho x f
    | some z=>rw[e]at f;obtain rfl:=Option.some.inj f;exact v _ _ e
   obtain⟨G,g2⟩:=h p Fr x F;simp only;rw[G];by_cases i:b p x=0
   ·rw[Pf (show ¬b p x≠0 from fun g=>g i),Pf (show ¬b p x≠0 from fun g=>g i)];obtain⟨y,I,J,K⟩:=g2 i;have L:Mk (fun p=>mp (p:Int)) j (fun p=>Dz (c.getD p 0)) p o=if Dz (c.getD p 0)=true then some y else none:=by
     unfold Mk;simp only;rw[f];simp only[Bx1];rw[I];rfl
    rw[L,J];refine A _ (fun N t=>?_)
    split at t
    ·obtain rfl:=Option.some.inj t;exact K
    cases t
   rw[Sp (show b p x≠0 from i),Sp (show b p x≠0 from i)]
def Bhi(A:Tr.Ok z)(mp:Int->Option Be)(g:Nat->Be->Option Be)(f:Nat->Be->Int)(c:TI)(i:Cd.Ins->Be->Int)(j:Cd.Ins->Be->Option Be)(P:Be->Prop)(m:∀x,P x->Ey z x)(s:∀q b,mp q=some b->P b)(e:Be)(t:P e) (h:∀p∈Cd.places c,∀x,P x->i (Cd.insAt c p) x=f p x/\(f p x=0->∃y,g p x=some y/\j (Cd.insAt c p) x=some y/\P y)):Tp z mp i j (Cd.insts c) e=Vi z (mp 0) e (fun q=>Ry (fun p=>mp (p:Int)) g (fun p=>Dz (c.getD p 0)) q (Cd.places c) (some e)) f (Cd.places c):=by
 unfold Tp Vi Cd.insts;have v:=Ag (fun p=>mp (p:Int)) g (fun p=>Dz (c.getD p 0)) f (some e) (Cd.places c) [] (by simpa using Bd4 c);simp only[Bx4,List.foldl_nil]at v;rw[v,Bdq mp g f c i j P s (Cd.places c) h (some e) (fun x B=>by obtain rfl:=Option.some.inj B;exact t)];cases l:mp 0 with
 | none=>rw[Am l,Pf (show ¬true=false by decide),Pf (show ¬((none:Option Be).isSome=true/\Dk z e (Ef none)=false) by simp)]
 | some b =>
  have C:Ef (some b)=b:=rfl;rw[Ss A l (m _ t) (m _ (s _ _ l)),C];cases D:Dk z e b with
  | false=>rw[Sp rfl,Sp (show (some b).isSome=true/\false=false from ⟨rfl,rfl⟩)]
  | true=>rw[Pf (show ¬true=false by decide),Pf (show ¬((some b).isSome=true/\true=false) by simp)]
def Bcl(f g:Rd.Mth->Int×Int):∀(b:List Rd.Mth) (k:Nat),(∀m∈b,f m=g m)->Fs f k b=Kl g k b
 | [],_,_=>rfl
 | m::r,k,h=>by rw[Fs,Kl,h m Fr,Bcl f g r (k+1) (fun x c=>h x (by simp[c]))]
def Beo:∀(l:List Rd.Mth) (k:Nat),Ho z m k l<0->∀b∈l,∃j,Ip z m j b=true
 | [],_,_=>Fr
 | b::r,k,h=>by
  rw[Ho]at h;by_cases c:Ip z m k b=false;·rw[Sp c]at h;omega
  rw[Pf c]at h;intro x e;rcases List.mem_cons.1 e with rfl|e
  ·exact⟨k,by simpa using c⟩
  exact Beo r _ h x e
def Bcr{e:TI}:∀(l:List Rd.Mth) (k:Nat),(Jy z c e k l).1=0->∀m∈l,(Ou z c e m).1=0
 | [],_,_=>Fr
 | m::r,k,h=>by
  rw[Jy]at h;by_cases b:(Ou z c e m).1≠0;·rw[Sp b]at h;exact absurd h b
  rw[Pf b]at h;intro x f;rcases List.mem_cons.1 f with rfl|f
  ·simpa using b
  exact Bcr r _ h x f
def Bg2:∀(l:List Rd.Cls) (k:Nat),(Tr.inCl z k l).1=0->∀c∈l,Tr.allPlainB z c.fields=true
 | [],_,_=>Fr
 | c::r,k,h=>by
  rw[Tr.inCl]at h;by_cases f:7+(k:Int)<=c.above;·rw[Sp f]at h;simp at h
  rw[Pf f]at h;by_cases b:Tr.allPlainB z c.fields=false;·rw[Sp b]at h;simp at h
  rw[Pf b]at h;intro x e;rcases List.mem_cons.1 e with rfl|e
  ·simpa using b
  exact Bg2 r _ h x e
def Ba2{α:Type}{f:α->Bool}:∀(l:List α) (k:Nat),Cd.firstIx f k l<0->∀x∈l,f x=false
 | [],_,_=>Fr
 | x::r,k,h=>by
  rw[Cd.firstIx]at h;by_cases b:f x=true;·rw[Sp b]at h;omega
  rw[Pf b]at h;intro y c;rcases List.mem_cons.1 c with rfl|c
  ·simpa using b
  exact Ba2 r _ h y c
def Bau{c:TI}:∀(l:List Rd.Mp) (i:Nat) (b:Int),Cd.mapsBad z c i b l<0->∀x∈l,Cd.frAll z c x.locals=true/\Cd.frAll z c x.stack=true/\Cd.begB c x.place=true
 | [],_,_,_=>Fr
 | m::r,i,b,h=>by
  rw[Cd.mapsBad]at h;by_cases e:Cd.begB c m.place=false;·rw[Sp e]at h;omega
  rw[Pf e]at h;by_cases p:m.place<=b;·rw[Sp p]at h;omega
  rw[Pf p]at h;by_cases f:Cd.frAll z c m.locals=false;·rw[Sp f]at h;omega
  rw[Pf f]at h;by_cases g:Cd.frAll z c m.stack=false;·rw[Sp g]at h;omega
  rw[Pf g]at h;intro y j;rcases List.mem_cons.1 j with rfl|j
  ·exact⟨by simpa using f,by simpa using g,by simpa using e⟩
  exact Bau r _ _ h y j
structure Av(m:Rd.Mth):Prop where
 lo:0<=m.locals/\m.locals<=8
 st:0<=m.stack/\m.stack<=8
 ml:∀q∈m.maps,q.locals.length=m.locals.toNat/\(q.stack.length:Int)<=m.stack
 c255:∀x∈m.code,x<=255
def Bue(s:TB)(L H:Int)(b:0<=H)(t:Rd.St):(Rd.mp s L H t).1.locals.length=L.toNat/\((Rd.mp s L H t).1.stack.length:Int)<=H:=by
 simp only[Rd.mp,Rd.tys,Rd.rep_len];have:=Rd.cn_bd s 0 H (Rd.rep (Rd.ty s) L.toNat (Rd.nx s t).2).2 b;exact⟨trivial,Bd⟩
def Bt9(s:TB)(t:Rd.St):Av (Rd.mth s t).1:=by
 simp only[Rd.mth];generalize (Rd.nx s (Rd.nx s t).2).2=e;generalize Rd.cn s 0 4 e=p at *;generalize (Rd.tys s p.1.toNat p.2).2=f;generalize (Rd.ty s f).2=b;have g:=Rd.cn_bd s 0 8 b Bd;generalize Rd.cn s 0 8 b=l at *;have c:=Rd.cn_bd s 0 8 l.2 Bd;generalize Rd.cn s 0 8 l.2=h at *;refine⟨g,c,?_,by simp only[Rd.codes];exact Sb (fun x:Int=>x<=255) _ (fun t=>(Rd.nx_bd s t).2) _ _⟩;simp only[Rd.mps];exact Sb (fun q:Rd.Mp=>q.locals.length=l.1.toNat/\(q.stack.length:Int)<=h.1) _ (fun t=>Bue s l.1 h.1 c.1 t) _ _
def Bsa(s:TB):∀m∈(Rd.read s).1.methods,Av m:=by
 unfold Rd.read
 split
 ·simp
 split
 ·simp
 simp only[Rd.fil];exact Sb Av _ (fun t=>Bt9 s t) _ _
structure Ra(T:List Int)(nf:Int)(ms:List Rd.Mth)(m:Rd.Mth):Prop where
 bd:Uy m
 rd:Av m
 unread:Cd.unread m.code<0
 arg:∀p∈Cd.places m.code,Cd.argAt T nf (ms.map Rd.Mth.cl) m.locals m.code p=true
 hnd:∀h∈m.handlers,Cd.hndBad T m.code h=false
 map:∀q∈m.maps,Cd.frAll T m.code q.locals=true/\Cd.frAll T m.code q.stack=true/\Cd.begB m.code q.place=true
 cl:m.cl=255\/Tr.hasB T m.cl=true
 res:Tr.plainB T m.result.1 m.result.2=true\/m.result=(0,0)
 ps:Tr.allPlainB T m.params=true
 own:((Kv m.cl m.params).length:Int)<=m.locals
def Bop(s:Uy F)(t:Av F)(v:∃j,Ip z m j F=true)(h:(Ou z c (m.map Rd.Mth.cl) F).1=0):Ra z c m F:=by
 unfold Ou at h;by_cases e:0<=Cd.badCode z c (m.map Rd.Mth.cl) F.locals F.code;·rw[Sp e]at h;simp at h
 rw[Pf e]at h;by_cases q:0<=Cd.firstIx (Cd.hndBad z F.code) 0 F.handlers;·rw[Sp q]at h;simp at h
 rw[Pf q]at h;by_cases A:0<=Cd.mapsBad z F.code 0 (-1) F.maps;·rw[Sp A]at h;simp at h
 unfold Cd.badCode at e;have i:Cd.unread F.code<0:=by
  by_cases i:0<=Cd.unread F.code;·rw[Sp i]at e;exact absurd i e
  omega
 rw[Pf Bd]at e;obtain⟨j,b⟩:=v;unfold Ip Rx at b;by_cases f:Yf z F.cl F.name F.result.1 F.result.2=true;·rw[Sp f]at b;simp at b
 rw[Pf f]at b;by_cases g2:Tr.allPlainB z F.params=false;·rw[Sp g2]at b;simp at b
 rw[Pf g2]at b;by_cases g3:Nn F.cl F.locals F.params=true;·rw[Sp g3]at b;simp at b
 unfold Yf at f;unfold Nn at g3;simp only[B0e,Bwk,Bwp,Bool.not_eq_true',Bxb,not_or,not_and]at f g3;have g4:Cd.firstIx (Cd.hndBad z F.code) 0 F.handlers<0:=Bd;have g5:Cd.mapsBad z F.code 0 (-1) F.maps<0:=Bd;have g6:Cd.first (Cd.badArg z c (m.map Rd.Mth.cl) F.locals F.code) (Cd.places F.code)<0:=Bd
 refine⟨s,t,i,?_,Ba2 _ _ g4,Bau _ _ _ g5,?_,?_,by simpa using g2,?_⟩
 ·intro p l;have:=An g6 p l;unfold Cd.badArg at this;simpa using this
 ·by_cases g:F.cl=255;·exact .inl g
  have:=f.1;rw[Pf g]at this;simp at this;exact .inr this.1
 ·by_cases l:Tr.plainB z F.result.1 F.result.2=true;·exact .inl l
  have:=f.2 (by simpa using l);exact .inr (by simpa[Prod.ext_iff] using this)
 unfold Kv;by_cases g:F.cl=255;·rw[Sp g];simp;omega
 rw[Pf g];have:=g3.2 g;simp;omega
structure Jj(cs:List Rd.Cls)(ms:List Rd.Mth):Prop where
 ok:Tr.Ok (Tr.tree cs)
 l6:cs.length<=6
 m6:ms.length<=6
 fn:∀c∈cs,c.fields.length<=1000
 fl:∀c∈cs,Tr.allPlainB (Tr.tree cs) c.fields=true
 mt:∀m∈ms,Ra (Tr.tree cs) (Cd.fieldSum cs:Int) ms m
def Ke(s:TB)(h:(Rf.formed s).1=0):Jj (Rd.read s).1.classes (Rd.read s).1.methods/\(Rf.fil s).1=(Rd.read s).1.classes/\(Rf.fil s).2.1.map Rf.Mth.m=(Rd.read s).1.methods:=by
 rw[<- M3]at h;obtain⟨l,p⟩:=Xt s;obtain⟨q,f⟩:=Vx s;have t:=Bsa s;unfold Ft at h;by_cases c:(Rd.read s).2≠0;·rw[Sp c]at h;exact absurd h c
 rw[Pf c]at h;obtain⟨v,z⟩:=(Bbd s).2 (by simpa using c);refine⟨?_,v.symm,z.symm⟩;unfold Ni at h;by_cases e:(Tr.inCl (Tr.tree (Rd.read s).1.classes) 0 (Rd.read s).1.classes).1≠0;·rw[Sp e]at h;exact absurd h e
 rw[Pf e]at h;have g:(Tr.inCl (Tr.tree (Rd.read s).1.classes) 0 (Rd.read s).1.classes).1=0:=by simpa using e
 have i:=Bi4 _ (Bf9 s) g;have C:=Ix (Rd.read s).1.classes;rw[Bjb i Bd Bd _ _ (fun o A=>(f o A).cl) (fun m b=>(f m b).code0)]at h;unfold Tx at h;by_cases j:0<=Ho (Tr.tree (Rd.read s).1.classes) (Rd.read s).1.methods 0 (Rd.read s).1.methods;·rw[Sp j]at h;simp at h
 rw[Pf j]at h;have B:Ho (Tr.tree (Rd.read s).1.classes) (Rd.read s).1.methods 0 (Rd.read s).1.methods<0:=Bd;exact⟨i,l,q,p,Bg2 _ _ g,fun m b=>Bop (f m b) (t m b) (Beo _ _ B m b) (Bcr _ _ h m b)⟩
def Cd.atI(c:TI)(i:Int):Int:=if i<0 then -1 else if (c.length:Int)<=i then -1 else c.getD i.toNat 0
def Wi(s:ByteArray)(i:Int):Rf.at' s.data.toList i=Cd.atI (Co s) i:=by
 unfold Rf.at' Cd.atI;rw[Jo];have c:s.data.toList.length=s.size:=Fr;rw[c];by_cases h:i<0;·rw[Sp h,Sp h]
 rw[Pf h,Pf h];by_cases b:(s.size:Int)<=i;·rw[Sp b,Sp b]
 rw[Pf b,Pf b];unfold Co;simp only[Th,Bv8];have:i.toNat<s.data.toList.length:=Bd;rw[Ws this];rfl
def Baa(c:TI)(p:Nat):Cd.nAt c p=Cd.atI c ((p:Int)+1):=by
 unfold Cd.nAt Cd.atI;rw[Pf (show ¬(p:Int)+1<0 by omega)];by_cases h:p+1<c.length
 ·rw[Sp h,Pf Bd]
  congr 1
 rw[Pf h,Sp Bd]
def N2(h:Cd.unread z<0):∀p∈Cd.places z,z.getD p 0<=25/\p+Cd.wd (z.getD p 0)<=z.length:=by
 intro p b;have:=An h p b;unfold Cd.noRead at this;simp at this;simpa using this
def W3{c:TI}{p:Nat}(h:p+Cd.wd (c.getD p 0)<=c.length)(b:Cd.wd (c.getD p 0)=2):(Cd.insAt c p).n=Cd.atI c ((p:Int)+1)/\Cd.atI c ((p:Int)+1)=c.getD (p+1) 0:=by
 have:Cd.atI c ((p:Int)+1)=c.getD (p+1) 0:=by
  rw[<- Baa];unfold Cd.nAt;rw[Sp Bd]
 refine⟨?_,this⟩;rw[this];unfold Cd.insAt;simp only;rw[Sp b]
def Bsh{F:List Rf.Fld}{e:Int->List (Int×Int)}{arg:Int->Int}{C:Int×Int}{op:Int}(h:Cd.wd op=1)(n b:Int):Ik z F m e arg C c op n x=Ik z F m e arg C c op b x:=by
 have j:¬(op=0\/op=2\/op=3\/(11<=op/\op<=21)):=by
  intro g;unfold Cd.wd at h;rw[Sp g]at h;omega
 have f:Cu F m C op n=Cu F m C op b:=by
  unfold Cu;simp only[show op≠17 by omega,show op≠18 by omega,show op≠20 by omega,show op≠21 by omega,Bxk]
 have i:Fg F m op n=Fg F m op b:=by
  unfold Fg;simp only[show op≠17 by omega,show op≠19 by omega,show op≠20 by omega,show op≠21 by omega,Bxk,false_or]
 unfold Ik;rw[f,i];simp only[show op≠2 by omega,show op≠3 by omega,show op≠16 by omega,Bxk]
def Bui{mp:Int->Option Be}{H:Int}{R:Option Be}{op b:Int}(h:Cd.wd op=1)(n f:Int):Nq z mp H R op n b c=Nq z mp H R op f b c:=by
 have i:¬(op=0\/op=2\/op=3\/(11<=op/\op<=21)):=by
  intro g;unfold Cd.wd at h;rw[Sp g]at h;omega
 have e:Dx op=false:=by unfold Dx;simp;omega
 unfold Nq;simp only[e,Bye,false_and,Bxk]
def Lr{n:Int}:Tr.hasB z n=true<->0<=n/\n<(z.length:Int):=by unfold Tr.hasB;simp
def Ht{C:Int×Int}(h:Tr.plainB z C.1 C.2=true):Tr.Arg z C.1 C.2/\C.1≠4:=by
 unfold Tr.plainB at h;by_cases b:C.1=1;·rw[Sp b]at h;exact⟨.inr (.inl ⟨b,by simpa using h⟩),Bd⟩
 rw[Pf b]at h;by_cases c:C.1=3;·rw[Sp c]at h;exact⟨.inr (.inr (.inr (.inl ⟨c,Lr.1 h⟩))),Bd⟩
 rw[Pf c]at h;simp at h
def Bbe{b:Int->Prop}{C:Int×Int}(h:Tr.plainB z C.1 C.2=true):Dj z b C:=⟨(Ht h).1,fun g=>absurd g (Ht h).2⟩
def Pi{q:TP}(h:Tr.allPlainB z q=true):∀t∈q,Tr.plainB z t.1 t.2=true:=fun t b=>by
 unfold Tr.allPlainB at h;exact List.all_eq_true.1 h t b
def Xr{n:Int}(h:0<=n/\n<(z.length:Int)):Tr.Arg z 3 n:=.inr (.inr (.inr (.inl ⟨rfl,h⟩)))
def Beq{r:Int×Int}(h:Tr.plainB z r.1 r.2=true\/r=(0,0)):∀t∈Ei r,Tr.plainB z t.1 t.2=true:=by
 intro t b;unfold Ei at b
 split at b
 ·simp at b
 rename_i c;obtain rfl:=List.mem_singleton.1 b;rcases h with h|h
 ·exact h
 rw[h]at c;exact absurd rfl c
def Beb{B:Int}{own:TP}:∀(k:Nat),k<=own.length->∀f∈Rf.ownTo c B own k,f.owner=c/\f.t∈own
 | 0,_=>by simp[Rf.ownTo]
 | k+1,h=>by
  intro f b;rw[Rf.ownTo]at b;rcases List.mem_append.1 b with b|b
  ·exact Beb k Bd f b
  obtain rfl:=List.mem_singleton.1 b;exact⟨rfl,Hu Bd⟩
def Sf:Rf.given.length=7:=rfl
def Bqy(b:List Rd.Cls)(j:Nat):(Rf.given++b).getD (7+j) ⟨0,[]⟩=b.getD j ⟨0,[]⟩:=by
 rw[Th,Bvt (by rw[Sf];omega),Sf,<- Th]
 congr 1;omega
def Pd(b:List Rd.Cls)(i:Nat)(h:i<7):((Rf.given++b).getD i ⟨0,[]⟩).fields=[]:=by
 rw[Th,Bvy (by rw[Sf];omega)];have:i=0\/i=1\/i=2\/i=3\/i=4\/i=5\/i=6:=Bd;rcases this with rfl|rfl|rfl|rfl|rfl|rfl|rfl<;>rfl
def Bex(h:∀c∈t,Tr.allPlainB z c.fields=true)(d:Nat):∀b∈((Rf.given++t).getD d ⟨0,[]⟩).fields,Tr.plainB z b.1 b.2=true:=by
 by_cases e:d<7;·rw[Pd t d e];simp
 obtain⟨j,rfl⟩:∃j,d=7+j:=⟨d-7,Bd⟩;rw[Bqy];by_cases f:j<t.length;·exact Pi (h _ (Hu f))
 rw[Th,Bwz Bd];simp
def Bcm{g:List Rd.Cls}(h:∀c∈g,Tr.allPlainB z c.fields=true):∀(j:Nat),∀f∈Rf.fieldsTo z (Rf.given++g) j,(7<=f.owner/\f.owner<7+(j:Int))/\Tr.plainB z f.t.1 f.t.2=true
 | 0=>by simp[Rf.fieldsTo]
 | j+1=>by
  intro f e;rw[Rf.fieldsTo]at e;rcases List.mem_append.1 e with e|e
  ·obtain⟨a,b⟩:=Bcm h j f e;exact⟨Bd,b⟩
  unfold Rf.ownOf at e;obtain⟨a,b⟩:=Beb _ (Wf _) f e;exact⟨Bd,Bex h _ _ b⟩
def W9(h:∀c∈t,Tr.allPlainB z c.fields=true)(c:Int):∀(d:Nat),∀b∈Rf.allTo z (Rf.given++t) c d,Tr.plainB z b.1 b.2=true
 | 0=>by simp[Rf.allTo]
 | d+1=>by
  intro b e;rw[Rf.allTo]at e;rcases List.mem_append.1 e with e|e
  ·exact W9 h c d b e
  split at e
  ·exact Bex h d b e
  simp at e
def Yj (c:TI)(q:Int):Prop:=Cd.begB c q=true/\c.getD q.toNat 0=15
def J1 (T:TI)(m:Rd.Mth)(x:Be):Prop:=J6 T m.locals.toNat m.stack (Yj m.code) x
def Cq (cs:List Rd.Cls):List Rf.Fld:=Rf.fieldsTo (Tr.tree cs) (Rf.given++cs) cs.length
def Fj (m:Rd.Mth)(q:Int):Option Be:=Ka q m.maps
def Fk (m:Rd.Mth):Be:=Pp m.cl m.params m.locals.toNat
def Fn (cs:List Rd.Cls)(ms:List Rd.Mth)(m:Rd.Mth)(p:Nat)(x:Be):Option Be :=
 Gt m.stack (Ik (Tr.tree cs) (Cq cs) ms (fun c=>Rf.all (Tr.tree cs) (Rf.given++cs) c.toNat) (fun q=>Cd.atI m.code (q+1)) m.result (p:Int) (m.code.getD p 0) (Cd.atI m.code ((p:Int)+1)) x)
def Tz (cs:List Rd.Cls)(ms:List Rd.Mth)(m:Rd.Mth)(p:Nat)(x:Be):Int :=
 Nq (Tr.tree cs) (Fj m) (Kk (Tr.tree cs) (Fj m) (p:Int) x.locals m.handlers) (Fn cs ms m p x) (m.code.getD p 0) (Cd.atI m.code ((p:Int)+1)) ((p+Cd.wd (m.code.getD p 0):Nat):Int) (m.code.length:Int)
def Jh (cs:List Rd.Cls)(ms:List Rd.Mth)(m:Rd.Mth)(q:Nat):Option Be :=
 Ry (fun p=>Fj m (p:Int)) (Fn cs ms m) (fun p=>Dz (m.code.getD p 0)) q (Cd.places m.code) (some (Fk m))
def Kj (cs:List Rd.Cls)(ms:List Rd.Mth)(m:Rd.Mth):Int × Int :=
 Vi (Tr.tree cs) (Fj m 0) (Fk m) (Jh cs ms m) (Tz cs ms m) (Cd.places m.code)
def Oj (cs:List Rd.Cls):List (List (Int × Int)):=(Rf.given++cs).map Rd.Cls.fields
def Dt (cs:List Rd.Cls)(ms:List Rd.Mth)(m:Rd.Mth)(i:Cd.Ins)(x:Be):Option Be :=
 Nv (Tr.tree cs) m.stack (Ij (Oj cs) ms m.result i.op i.n) (Hj (Oj cs) ms i.op i.n) (Dq (Tr.tree cs) (Oj cs) i.n) (Ld (Cd.readL m.code) i.n) i.place i.op i.n x
def Rt (cs:List Rd.Cls)(ms:List Rd.Mth)(m:Rd.Mth)(i:Cd.Ins)(x:Be):Int :=
 Tn (Tr.tree cs) (Fj m) (Hg (Tr.tree cs) (Fj m) i.place x.locals m.handlers) (Dt cs ms m i x) i.op i.n ((i.place.toNat+Cd.wd i.op:Nat):Int) (m.code.length:Int)
def Ma (cs:List Rd.Cls)(ms:List Rd.Mth)(m:Rd.Mth):Int × Int :=
 Tp (Tr.tree cs) (Fj m) (Rt cs ms m) (Dt cs ms m) (Cd.readL m.code) (Fk m)
def Nb(h:J1 z F x):Ey z x:=⟨fun t b=>(h.tl t b).1,fun t b=>(h.ts t b).1⟩
def Bnm{l:List Rd.Mp}{U:Be}(h:Ka c l=some U):∃y∈l,U=⟨y.locals,y.stack⟩:=by
 induction l with
 | nil=>simp[Ka]at h
 | cons y r ih =>
  rw[Ka]at h
  split at h
  ·exact⟨y,Fr,(Option.some.inj h).symm⟩
  obtain⟨b,f,e⟩:=ih h;exact⟨b,by simp[f],e⟩
def Boc{c:TI}(i:c.length<=120){C:Int×Int}(h:Cd.framed z c C.1 C.2=true):Dj z (Yj c) C:=by
 unfold Cd.framed at h;by_cases b:C.1=0\/C.1=1\/C.1=2
 ·rw[Sp b]at h;have:C.2=0:=by simpa using h
  refine⟨?_,fun g=>Bd⟩;rcases b with b|b | b
  ·exact .inl ⟨b,this⟩
  ·exact .inr (.inl ⟨b,this⟩)
  exact .inr (.inr (.inl ⟨b,this⟩))
 rw[Pf b]at h;by_cases e:C.1=3;·rw[Sp e]at h;exact⟨by rw[e];exact Xr (Lr.1 h),fun g=>Bd⟩
 rw[Pf e]at h;by_cases f:C.1=4;·rw[Sp f]at h;simp only[Bwk,By9]at h;have:=Pu h.1;exact⟨.inr (.inr (.inr (.inr ⟨f,Bd,Bd⟩))),fun _=>h⟩
 rw[Pf f]at h;simp at h
def Bhd{c:TI}(b:c.length<=120){q:TP}(h:Cd.frAll z c q=true):∀t∈q,Dj z (Yj c) t:=fun t e=>Boc b (List.all_eq_true.1 h t e)
def Vc(g:Ra z c m F){B:Int}{U:Be}(h:Fj F B=some U):J1 z F U:=by
 obtain⟨y,f,rfl⟩:=Bnm h;obtain⟨a,b,_⟩:=g.map y f;obtain⟨e,d⟩:=g.rd.ml y f;exact⟨e,d,Bhd g.bd.code a,Bhd g.bd.code b⟩
def Vj(g:Ra z c m F):J1 z F (Fk F):=by
 have i:=g.own;have j:=g.rd.lo;have e:=g.rd.st;refine⟨?_,by simpa[Fk,Pp] using e.1,?_,by simp[Fk,Pp]⟩
 ·simp only[Fk,Pp,Up,B0q];omega
 intro t b;simp only[Fk,Pp]at b;rcases List.mem_append.1 b with b|b
 ·unfold Kv at b;rcases List.mem_append.1 b with b|b
  ·split at b
   ·simp at b
   rename_i f;obtain rfl:=List.mem_singleton.1 b;exact⟨Xr (Lr.1 (g.cl.resolve_left f)),fun h=>by simp at h⟩
  exact Bbe (Pi g.ps t b)
 rw[(List.mem_replicate.1 b).2];exact Ba9 _ _
structure Yg(T:List Int)(nf:Int)(ms:List Rd.Mth)(m:Rd.Mth)(op n:Int):Prop where
 loc:op=2\/op=3->0<=n/\n<m.locals
 cls:op=15\/op=16\/op=19->0<=n/\n<(T.length:Int)
 fld:op=17\/op=18->0<=n/\n<nf
 mth:op=20\/op=21->0<=n/\n<(ms.length:Int)
 own:op=21->(ms.getD n.toNat ⟨0,0,[],(0,0),0,0,[],[],[]⟩).cl≠255
def X2(g:Ra z c m F)(i:u∈Cd.places F.code):Yg z c m F (F.code.getD u 0) (Cd.atI F.code ((u:Int)+1)):=by
 have b:=g.arg u i;obtain⟨s,j⟩:=N2 g.unread u i;unfold Cd.argAt at b;rw[Baa]at b;have l:Cd.wd (F.code.getD u 0)=2->0<=Cd.atI F.code ((u:Int)+1):=fun q=>by
  rw[(W3 j q).2];exact Yy g.bd.code0 _
 generalize Cd.atI F.code ((u:Int)+1)=n at *;generalize F.code.getD u 0=op at *;have f:op=2\/op=3\/(11<=op/\op<=21)->0<=n:=fun h=>l (by unfold Cd.wd;rw[Sp Bd]);unfold Cd.argB at b;refine⟨fun h=>?_,fun h=>?_,fun h=>?_,fun h=>?_,fun h=>?_⟩
 ·rw[Sp h]at b;exact⟨f Bd,by simpa using b⟩
 ·rw[Pf Bd,Pf Bd,Sp h]at b;exact Lr.1 b
 ·rw[Pf Bd,Pf Bd,Pf Bd,Sp h]at b;exact⟨f Bd,by simpa using b⟩
 ·refine⟨f Bd,?_⟩;rw[Pf Bd,Pf Bd,Pf Bd,Pf Bd]at b;rcases h with h|h
  ·rw[Sp h]at b;simp at b;exact_mod_cast b.1
  rw[Pf Bd,Sp h]at b;simp at b;exact_mod_cast b.1
 have t:=f Bd;rw[Pf Bd,Pf Bd,Pf Bd,Pf Bd,Pf Bd,Sp h]at b;simp only[Bwk,Bwp,bne_iff_ne,ne_eq,Bvr]at b;have e:(List.map Rd.Mth.cl m).getD n.toNat 0=(m.getD n.toNat ⟨0,0,[],(0,0),0,0,[],[],[]⟩).cl:=by
  simp only[Th,Bv8];have:n.toNat<m.length:=Bd;rw[Ws this];rfl
 rw[e]at b;exact b.2
def V9(b:List Rd.Cls):((Cq b).length:Int)=(Cd.fieldSum b:Int):=by
 have:=Cd.fields_eq (Tr.tree b) b b.length (Wf _);rw[Byk]at this;unfold Cq;rw[this]
def Al{b:List Rd.Cls}(k:Jj b m){n:Int}(h:0<=n/\n<(Cd.fieldSum b:Int)):(0<=((Cq b).getD n.toNat ⟨0,0,(0,0)⟩).owner/\((Cq b).getD n.toNat ⟨0,0,(0,0)⟩).owner<((Tr.tree b).length:Int))/\Tr.plainB (Tr.tree b) ((Cq b).getD n.toNat ⟨0,0,(0,0)⟩).t.1 ((Cq b).getD n.toNat ⟨0,0,(0,0)⟩).t.2=true:=by
 have c:=V9 b;have:=Bcm k.fl b.length _ (show (Cq b).getD n.toNat ⟨0,0,(0,0)⟩∈Cq b from Hu Bd);have e:=Ix b;exact⟨Bd,this.2⟩
def Uo{n:Int}(h:0<=n/\n<(z.length:Int)):Tr.plainB z 3 n=true:=by
 unfold Tr.plainB;rw[Pf Bd,Sp rfl];exact Lr.2 h
def Xe(k:Jj t m){op n:Int}(i:F∈m)(h:Yg (Tr.tree t) (Cd.fieldSum t:Int) m F op n):∀b∈Cu (Cq t) m F.result op n,Tr.plainB (Tr.tree t) b.1 b.2=true:=by
 have q:=Ix t;have g:=k.mt F i;unfold Cu;intro b c
 split at c
 ·simp at c;rw[c];rfl
 split at c
 ·simp at c;rw[c];rfl
 split at c
 ·simp at c;rw[c];exact Uo ⟨Fr,Fm⟩
 split at c
 ·rename_i j;obtain rfl:=List.mem_singleton.1 c;exact Uo (Al k (h.fld (.inl j))).1
 split at c
 ·rename_i l;have:=Al k (h.fld (.inr l));simp only[Bxy,Bx9,Bz2]at c;rcases c with rfl|rfl
  ·exact Uo this.1
  exact this.2
 split at c
 ·rename_i p;have:=h.mth (.inl p);exact Pi (k.mt _ (Hu (show n.toNat<m.length by omega))).ps b c
 split at c
 ·rename_i e;have s:=h.mth (.inr e);have f:=k.mt _ (Hu (d:=⟨0,0,[],(0,0),0,0,[],[],[]⟩) (show n.toNat<m.length by omega));rcases List.mem_cons.1 c with rfl|c
  ·exact Uo (Lr.1 (f.cl.resolve_left (h.own e)))
  exact Pi f.ps b c
 split at c
 ·exact Beq g.res b c
 split at c
 ·obtain rfl:=List.mem_singleton.1 c;exact Uo ⟨Fr,Fm⟩
 simp at c
def Bdv(k:Jj t m){op n:Int}(c:F∈m)(h:Yg (Tr.tree t) (Cd.fieldSum t:Int) m F op n):∀b∈Cu (Cq t) m F.result op n,Tr.Arg (Tr.tree t) b.1 b.2:=fun b e=>(Ht (Xe k c h b e)).1
def Bnv(k:Jj t m){op n:Int}{e:Int->Prop}(h:Yg (Tr.tree t) (Cd.fieldSum t:Int) m F op n):∀b∈Fg (Cq t) m op n,Dj (Tr.tree t) e b:=by
 unfold Fg;intro b c
 split at c
 ·simp at c;rw[c];exact⟨.inr (.inl ⟨rfl,rfl⟩),fun h=>by simp at h⟩
 split at c
 ·simp at c;rw[c];exact⟨.inr (.inr (.inl ⟨rfl,rfl⟩)),fun h=>by simp at h⟩
 split at c
 ·rename_i f;obtain rfl:=List.mem_singleton.1 c;exact Bbe (Al k (h.fld (.inl f))).2
 split at c
 ·rename_i g;obtain rfl:=List.mem_singleton.1 c;exact⟨Xr (h.cls (.inr (.inr g))),fun h=>by simp at h⟩
 split at c
 ·rename_i i;have:=h.mth i;exact Bbe (Beq (k.mt _ (Hu (show n.toNat<m.length by omega))).res b c)
 simp at c
def Vy(h:Cd.unread z<0):Cd.readL z=Cd.insts z:=by
 unfold Cd.readL;rw[Pf Bd]
def Bbp(h:Cd.begB z c=true):c.toNat∈Cd.places z:=by
 unfold Cd.begB at h;rw[By6]at h;obtain⟨p,b,e⟩:=h;have:(p:Int)=c:=by simpa using e
 rw[<- this,Bvn];exact b
def Bnz{c:TI}(b:Cd.unread c<0){q:Int}(h:Yj c q)(n:Int):Ld (Cd.readL c) n q=true<->Cd.atI c (q+1)=n:=by
 rw[Vy b];have s:=Pu h.1;have f:(Cd.findAt q (Cd.insts c)).isSome=true:=by rw[Cd.find_beg];exact h.1
 have i:=(Cd.find_at c q (Cd.places c) f).1;have g:=N2 b _ (Bbp h.1);rw[h.2]at g;have j:Cd.wd (c.getD q.toNat 0)=2:=by rw[h.2];rfl
 have l:=W3 (c:=c) (p:=q.toNat) (by rw[h.2];exact g.2) j;unfold Ld;rw[f];unfold Cd.insts;rw[i,l.1];have e:(Cd.insAt c q.toNat).op=15:=h.2;have m:((q.toNat:Nat):Int)=q:=Bd;rw[e,m];simp
def Un(k:Jj t m)(f:F∈m)(c:u∈Cd.places F.code){y:Be}(i:J1 (Tr.tree t) F x)(h:Fn t m F u x=some y):J1 (Tr.tree t) F y:=by
 have g:=k.mt F f;have b:=X2 g c;unfold Fn at h;rw[Bc8]at h;refine Bpq _ _ _ _ _ _ _ _ _ i (Bnv k b) (fun j=>?_) (fun l=>?_) (fun q=>b.cls Bd) h
 ·have:=b.loc (.inl j);have:=g.rd.lo;omega
 have e:Cd.begB F.code (u:Int)=true:=by
  unfold Cd.begB;rw[By6];exact⟨u,c,Fr⟩
 have:=Pu e;have:=g.bd.code;exact⟨.inr (.inr (.inr (.inr ⟨rfl,Fr,Fm⟩))),fun _=>⟨e,by simpa using l⟩⟩
def Ug(k:Jj t m)(s:F∈m)(v:u∈Cd.places F.code)(j:J1 (Tr.tree t) F x):Dt t m F (Cd.insAt F.code u) x=Fn t m F u x:=by
 have g:=k.mt F s;have Y:=Ix t;have Z:=V9 t;obtain⟨a0,z⟩:=N2 g.unread u v;have A:=X2 g v;have B:(Cd.insAt F.code u).op=F.code.getD u 0:=rfl;have C:(Cd.insAt F.code u).place=(u:Int):=rfl
 -- the number as the program has it
 have D:Fn t m F u x=Gt F.stack (Ik (Tr.tree t) (Cq t) m (fun c=>Rf.all (Tr.tree t) (Rf.given++t) c.toNat) (fun q=>Cd.atI F.code (q+1)) F.result (u:Int) (F.code.getD u 0) (Cd.insAt F.code u).n x):=by
  unfold Fn;have I:=Cd.wd_bd (F.code.getD u 0);by_cases e:Cd.wd (F.code.getD u 0)=2;·rw[(W3 z e).1]
  rw[Bsh (show Cd.wd (F.code.getD u 0)=1 by omega)]
 have f:Yg (Tr.tree t) (Cd.fieldSum t:Int) m F (F.code.getD u 0) (Cd.insAt F.code u).n:=by
  have I:=Cd.wd_bd (F.code.getD u 0);by_cases e:Cd.wd (F.code.getD u 0)=2;·rw[(W3 z e).1];exact A
  have h':¬(F.code.getD u 0=0\/F.code.getD u 0=2\/F.code.getD u 0=3\/(11<=F.code.getD u 0/\F.code.getD u 0<=21)):=by
   intro J;unfold Cd.wd at e;rw[Sp J]at e;exact e rfl
  exact⟨fun h=>Bd,fun h=>Bd,fun h=>Bd,fun h=>Bd,fun h=>Bd⟩
 have K:0<=(Cd.insAt F.code u).n:=by
  unfold Cd.insAt;simp only
  split
  ·exact Yy g.bd.code0 _
  omega
 obtain⟨n,l⟩:∃n:Nat,(Cd.insAt F.code u).n=(n:Int):=⟨(Cd.insAt F.code u).n.toNat,Bd⟩;rw[D];unfold Dt;rw[B,C,l];rw[l]at f;clear D A B C l K;generalize a1:F.code.getD u 0=op at *;have G:7<=(Rf.given++t).length:=by simp[Sf]
 have L:(Rf.given++t).length-7=t.length:=by simp[Sf]
 have a2:(Rf.given++t).length=7+t.length:=by simp[Sf]
 have hF:Cq t=Rf.fieldsTo (Tr.tree t) (Rf.given++t) ((Rf.given++t).length-7):=by rw[L];rfl
 have N:Ij (Oj t) m F.result op (n:Int)=Cu (Cq t) m F.result op (n:Int):=by
  rw[hF];refine Bpk _ _ G (Pd t) _ _ _ _ (fun h=>?_);have:=f.fld h;rw[<- hF];omega
 have O:Hj (Oj t) m op (n:Int)=Fg (Cq t) m op (n:Int):=by
  rw[hF];refine Bnw _ _ G (Pd t) _ _ _ (fun h=>?_);have:=f.fld (.inl h);rw[<- hF];omega
 rw[Bc8,N,O,<- Bos k.ok (isNew:=Ld (Cd.readL F.code) (n:Int)) (want:=Rf.all (Tr.tree t) (Rf.given++t) (n:Int).toNat)]
 ·-- only Init wants the fields
  by_cases Q:op=16;·have:=f.cls Bd;rw[show Oj t=(Rf.given++t).map Rd.Cls.fields from rfl,Xm k.ok (Rf.given++t) Bd Bd,Bvn]
  unfold Nv Zd;simp only[Pf Q]
 ·exact fun b i=>(j.ts b i).1
 ·exact Bdv k s f
 ·exact fun b i=>(Ht (W9 k.fl _ _ b i)).1
 ·exact Bk2 _ _ _ _
 ·exact j.hi
 ·intro h;have:=f.loc h;have:=j.lo;have:=g.rd.lo;omega
 intro _ b i V;exact Bnz g.unread ((j.ts b i).2 V) _
def Beg{mp:Int->Option Be}{H:Int}{R:Option Be}{op n e:Int}(h:Nq z mp H R op n c e=0):∃y,R=some y:=by
 unfold Nq at h;by_cases b:H≠0;·rw[Sp b]at h;exact absurd h b
 rw[Pf b]at h;cases R with
 | none=>simp at h
 | some y=>exact⟨y,rfl⟩
def Bsx(g:Ra z c m F):∀h∈F.handlers,Tr.Arg z 3 h.cl:=by
 intro h b;have:=g.hnd h b;unfold Cd.hndBad at this;simp only[Bxo,Bool.not_eq_false']at this;exact Xr (Lr.1 this.1.2)
def Beh(k:Jj t m)(c:F∈m)(e:u∈Cd.places F.code)(f:J1 (Tr.tree t) F x):Rt t m F (Cd.insAt F.code u) x=Tz t m F u x:=by
 have g:=k.mt F c;obtain⟨C,j⟩:=N2 g.unread u e;have i:∀q z,Fj F q=some z->Ey (Tr.tree t) z:=fun q z h=>Nb (Vc g h);unfold Rt Tz;have l:(Cd.insAt F.code u).op=F.code.getD u 0:=rfl;have s:(Cd.insAt F.code u).place=(u:Int):=rfl;rw[Ug k c e f,l,s,Bvn,Bay k.ok _ i _ _ (fun b v=>(f.tl b v).1) _ (Bsx g),
  Bsr k.ok _ i _ _ (fun y A=>Nb (Un k c e f A))]
 have D:=Cd.wd_bd (F.code.getD u 0);by_cases B:Cd.wd (F.code.getD u 0)=2;·rw[(W3 j B).1]
 exact Bui Bd _ _
def Boh(k:Jj t m)(b:F∈m):Ma t m F=Kj t m F:=by
 have g:=k.mt F b;unfold Ma Kj Jh;rw[Vy g.unread];refine Bhi k.ok (Fj F) (Fn t m F) (Tz t m F) F.code (Rt t m F) (Dt t m F) (J1 (Tr.tree t) F) (fun x h=>Nb h) (fun q z h=>Vc g h) (Fk F) (Vj g) ?_;intro p c x e;refine⟨Beh k b c e,fun i=>?_⟩;obtain⟨y,f⟩:=Beg i;exact⟨y,f,by rw[Ug k b c e,f],Un k b c e f⟩
def Gq (s:TB):Int × Int × Int:=Wv (Rf.formed s) (Kl (Kj (Rd.read s).1.classes (Rd.read s).1.methods) 0 (Rd.read s).1.methods)
def Kg (lcs:List (Rd.Cls × Value)):List (Value × List (Int × Int)):=List.replicate 7 (.slice none 0 0,[])++lcs.map fun p=>(p.2,p.1.fields)
def Bhf(b:List (Rd.Cls×Value)):(Kg b).map Prod.fst=Tr.fvals b:=by
 unfold Kg Tr.fvals;rw[Bvx,List.map_replicate,Bz6];rfl
def Boe(b:List (Rd.Cls×Value)):(Kg b).map Prod.snd=Oj (b.map Prod.fst):=by
 unfold Kg Oj;rw[Bvx,List.map_replicate,Bz6,Bvx,Bz6];rfl
def Wb(b:List (Rd.Cls×Value)):(Kg b).length=7+b.length:=by unfold Kg;simp;omega
def Bs1(h:∀x∈z,x<=255)(i:Nat):z.getD i 0<=255:=by
 by_cases b:i<z.length;·exact h _ (Hu b)
 rw[Th,Bwz Bd];simp
structure Uj(cs:List Rd.Cls)(ms:List Rd.Mth)(lcs:List (Rd.Cls × Value))(lms:List (Rd.Mth × Eh))(b:PBd)(m:Rd.Mth)(bm:Nat)(w:World):Prop where
 k:Jj cs ms
 ec:lcs.map Prod.fst=cs
 em:lms.map Prod.fst=ms
 mem:m∈ms
 T:b.T=Tr.tree cs
 L:b.L=Cd.readL m.code
 ru:Ru b w 0 lms (Kg lcs)
 is:(⟨b.cl,b.nm,b.pa,b.pl,b.pc,b.r1,b.r2,b.lo,b.st,b.ca,b.cn,b.cc,b.ha,b.hl,b.hc,b.ma,b.ml,b.mc⟩:PM).is m w bm
def Uj.below{e:List (Rd.Mth×Eh)}{c:PBd}{w b:TW}(h:Uj t m J e c F u w)(f:Bl w b):Uj t m J e c F u b :=
 ⟨h.k,h.ec,h.em,h.mem,h.T,h.L,h.ru.below f,h.is.below f⟩
def Xg{b:PBd}{w:TW}(h:Uj t m J L b F u w):Ri b (Fj F) w:=by
 intro q i j;have f:=h.below j;have g:=h.k.mt F h.mem;obtain⟨c,e,l⟩:=f.is.mp;have v:c.length=F.maps.length:=by rw[<- e];simp
 have z:=g.bd.mp;have p:∀q∈c,q.1.locals.length<=5000/\q.1.stack.length<=5000:=fun q s=>by
  have:q.1∈F.maps:=by rw[<- e];exact List.mem_map.2 ⟨q,s,rfl⟩
  have:=g.bd.fr _ this;omega
 have:=Bkk b c u q i (by have:=f.is.ml;simp only at this;omega) Bd p l;rw[e]at this;exact this
def Bh4{b:PBd}{w:TW}(h:Uj t m J L b F u w):Calls prog 110 #[.agg #[.i b.cl,.i b.nm,.s b.pa b.pl b.pc,.i b.r1,.i b.r2,.i b.lo,.i b.st,.s b.ca b.cn b.cc,.s b.ha b.hl b.hc,.s b.ma b.ml b.mc]] w fun e j=>∃c:FrV,e=.returned c.val/\c.is (Fk F) j/\Bl w j:=by
 have g:=h.k.mt F h.mem;have p:=g.rd.lo;have l:=h.is.lo;have f:=h.is.cl;simp only at l f;have:=Bb5 ⟨b.cl,b.nm,b.pa,b.pl,b.pc,b.r1,b.r2,b.lo,b.st,b.ca,b.cn,b.cc,b.ha,b.hl,b.hc,b.ma,b.ml,b.mc⟩ F.params F.locals.toNat w Ls Bd (TyR.of_tys h.is.ps) (by have:=g.bd.ps;omega);simp only[PM.val,f]at this;unfold Fk;rw[f];exact this
def Zz{f:List (Rd.Mth×Eh)}{b:PBd}{w:TW}(h:Uj t m J f b F u w)(p:Nat)(v:FrV)(x:Be)(j:p∈Cd.places F.code)(C:v.is x w)(l:J1 (Tr.tree t) F x):Calls prog 221 #[b.val,.agg #[.i (p:Int),.i (Cd.insAt F.code p).op,.i (Cd.insAt F.code p).n],v.val] w fun e s=>∃c:FrV,e=.r (.tuple #[c.val,.bool (Dt t m F (Cd.insAt F.code p) x).isSome])/\(∀y,Dt t m F (Cd.insAt F.code p) x=some y->c.is y s)/\Bl w s:=by
 have g:=h.k.mt F h.mem;obtain⟨Z,D⟩:=N2 g.unread p j;have G:=X2 g j;have a0:=g.rd.lo;have a1:=g.rd.st;have a2:0<=(Cd.insAt F.code p).n:=by
  unfold Cd.insAt;simp only
  split
  ·exact Yy g.bd.code0 _
  omega
 have I:(Cd.insAt F.code p).op=20\/(Cd.insAt F.code p).op=21->(Cd.insAt F.code p).n.toNat<f.length:=by
  intro K;have N:F.code.getD p 0=20\/F.code.getD p 0=21:=K;have O:Cd.wd (F.code.getD p 0)=2:=by unfold Cd.wd;rw[Sp Bd]
  have:=G.mth N;rw[(W3 D O).1];have:m.length=f.length:=by rw[<- h.em];simp
  omega
 have Q:(Cd.insAt F.code p).n.toNat<=100000:=by
  have:(Cd.insAt F.code p).n<=255:=by
   unfold Cd.insAt;simp only
   split
   ·exact Bs1 g.rd.c255 _
   omega
  omega
 have V:∀q∈f,q.1.params.length<=1000:=fun q Y=>by
  have:q.1∈m:=by rw[<- h.em];exact List.mem_map.2 ⟨q,Y,rfl⟩
  have:=(h.k.mt _ this).bd.ps;omega
 have:=Bh7 b 0 f (Kg J) (p:Int) (Cd.insAt F.code p).op (Cd.insAt F.code p).n.toNat v x w h.ru C Q (by rw[l.lo];omega) (by have:=l.hi;omega) V I;have z:=h.is.st;have A:=h.is.r1;have B:=h.is.r2;simp only at z A B;rw[show (((Cd.insAt F.code p).n.toNat:Nat):Int)=(Cd.insAt F.code p).n by omega,Boe,h.em,h.ec,h.T,h.L,z,show (b.r1,b.r2)=F.result by rw[A,B]]at this;exact this
def Bkl{b:PBd}{w:TW}(h:Uj t m J L b F u w)(p:Nat)(v:FrV)(x:Be)(j:p∈Cd.places F.code)(s:v.is x w)(l:J1 (Tr.tree t) F x):Calls prog 186 #[b.pval,.agg #[.i (p:Int),.i (Cd.insAt F.code p).op,.i (Cd.insAt F.code p).n],v.val] w fun e z=>∃c:FrV,e=.r (.tuple #[c.val,.i (Rt t m F (Cd.insAt F.code p) x)])/\(Rt t m F (Cd.insAt F.code p) x=0->∃y,Dt t m F (Cd.insAt F.code p) x=some y/\c.is y z/\J1 (Tr.tree t) F y)/\Bl w z:=by
 have g:=h.k.mt F h.mem;have Q:p<F.code.length:=Bdx j;have V:=g.bd.code;have Y:=g.bd.hs;have A:=h.is.cn;have B:=h.is.hl;simp only at A B;have I:=fun q (f:Bl w q)=>Bkm b (Fj F) F.handlers u (p:Int) v x q h.ru.tl (h.ru.below f).tr (Xg (h.below f)) B Bd (h.is.below f).hs (s.below f);have:=Bmz b (Fj F) p (Cd.insAt F.code p).op (Cd.insAt F.code p).n (Hg b.T (Fj F) (p:Int) x.locals F.handlers) (Dt t m F (Cd.insAt F.code p) x) v w h.ru.tl h.ru.tr (Xg h) Bd I (fun q f=>Zz (h.below f) p v x j (s.below f) l);rw[h.T,A]at this;refine this.mono ?_;rintro e q ⟨c,rfl,K,N⟩;refine⟨c,rfl,fun C=>?_,N⟩;have O:=Beh h.k h.mem j l;obtain⟨y,D⟩:=Beg (show Tz t m F p x=0 by rw[<- O];exact C);have G:Dt t m F (Cd.insAt F.code p) x=some y:=by rw[Ug h.k h.mem j l];exact D
 exact⟨y,G,K C y G,Un h.k h.mem j l D⟩
def Bko{l:List (Rd.Mth×Eh)}{b:PBd}{w:TW}(h:Uj t m J l b F u w):Calls prog 129 #[b.pval] w fun e c=>e=.r (.agg #[.i (Ma t m F).1,.i 0,.i (Ma t m F).2])/\Bl w c:=by
 have g:=h.k.mt F h.mem;have:=Bm2 b (Fj F) (Rt t m F) (Dt t m F) (Fk F) (J1 (Tr.tree t) F) 0 w h.ru.tl h.ru.tr (Xg h) h.ru.ll h.ru.ins (fun c f=>Bh4 (h.below f))
  (fun i j v x c f s A=>by
   rw[h.L,Vy g.unread]at j;obtain⟨p,B,rfl⟩:=List.mem_map.1 j;exact Bkl (h.below f) p v x B s A) (Vj g) (fun q z C=>Vc g C)
 rw[h.T,h.L]at this;exact this
def Bb8(k:Jj t m){l D:TA}{F j K G:Nat}{v:List (Rd.Mth×Eh)}{w:TW}(A:J.map Prod.fst=t)(Q:Ex w G (.s l u F) J)(B:v.map Prod.fst=m)(I:Eb w G (.s D j K) v):Calls prog 80 #[.agg #[.s l u F,.s D j K]] w fun e V=>e=.r (.agg #[.i (Fs (Ma t m) 0 m).1,.i (Fs (Ma t m) 0 m).2.1,.i (Fs (Ma t m) 0 m).2.2])/\Bl w V:=by
 obtain⟨xa,xc,z⟩:=Bg I.1;simp only[Value.slice.injEq]at z;obtain⟨rfl,rfl,rfl⟩:=z;have a7:J.length=t.length:=by rw[<- A];simp
 have a8:v.length=m.length:=by rw[<- B];simp
 have a9:=k.l6;have b0:=k.m6;have b1:=Ix t;have C:∀p∈v,p.1∈m:=fun p h=>by rw[<- B];exact List.mem_map.2 ⟨p,h,rfl⟩
 have:=Bm4 l D u F K G J v (Ma t m) w Bd Q Bd I (fun p h=>⟨by have:=(k.mt _ (C p h)).bd.code;omega,(k.mt _ (C p h)).bd.code0⟩)
  (fun p h b bb V Y e1 e2 e3 e4 Z e6 N hL a3 a0 a4 a5=>by
   have g:=k.mt _ (C p h);rw[A]at N;obtain⟨ya,yc,z⟩:=Bg a0;simp only[Value.slice.injEq]at z;have a6:b.yn=(Kg J).length:=by rw[Wb];exact z.2.1
   have b2:b.L.length<=120:=by
    rw[hL,Vy g.unread];have:=Aj p.1.code;have:=g.bd.code;omega
   refine Bko ⟨k,A,B,C p h,N,hL,⟨Z,Bd,?_,a6,by rw[Wb];omega,?_,⟨?_,?_⟩,by rw[N];omega,a3,Bd,D8 a5 (Bv5 _)⟩,a4⟩
   ·rw[e4,Z,e6];exact(I.kp (Kp.of_below (e:=none) Y) Ck Ck Ck Ck Ck).mono (Bv5 _)
   ·intro q f;unfold Kg at f;rcases List.mem_append.1 f with f|f
    ·rw[(List.mem_replicate.1 f).2];simp
    obtain⟨c,O,rfl⟩:=List.mem_map.1 f;exact k.fn c.1 (by rw[<- A];exact List.mem_map.2 ⟨c,O,rfl⟩)
   ·rw[Bhf,Wb];exact D8 a0 (Bv5 _)
   intro q f;unfold Kg at f;rcases List.mem_append.1 f with f|f
   ·rw[(List.mem_replicate.1 f).2];exact TyR.nil _
   obtain⟨c,O,rfl⟩:=List.mem_map.1 f;exact TyR.of_tys ((Q.kp (Kp.of_below (e:=none) Y) Ck Ck).2 c O))
 rw[B]at this;exact this
def Ao(f:Rd.Mth->Int×Int):∀(l:List Rd.Mth) (k:Nat),(Kl f k l).1=0->Kl f k l=(0,0,0)
 | [],_,_=>rfl
 | m::r,k,h=>by
  rw[Kl]at h ⊢;by_cases b:(f m).1≠0;·rw[Sp b]at h;exact absurd h b
  rw[Pf b]at h ⊢;exact Ao f r _ h
def Bcp(s:TB):Mb (Ft s) (Fs (Ma (Rd.read s).1.classes (Rd.read s).1.methods) 0 (Rd.read s).1.methods)=Wv (Rf.formed s) (Kl (Kj (Rd.read s).1.classes (Rd.read s).1.methods) 0 (Rd.read s).1.methods):=by
 rw[M3];unfold Mb Wv;by_cases b:(Rf.formed s).1≠0;·rw[Sp b,Sp b]
 rw[Pf b,Pf b];obtain⟨k,_,_⟩:=Ke s (by simpa using b);rw[Bcl _ (Kj (Rd.read s).1.classes (Rd.read s).1.methods) _ _ (fun m c=>Boh k c)]
 split
 ·rfl
 rename_i e;exact(Ao _ _ _ (by simpa using e)).symm
def Be6(s:ByteArray)(w:TW)(f:s.size<=maxLen):Calls prog 20 #[.string s] w fun e b=>e=.r (.tuple #[.i (Gq s.data.toList).1,.i (Gq s.data.toList).2.1,.i (Gq s.data.toList).2.2])/\Bl w b:=by
 have h:=Bo4 s (Fs (Ma (Rd.read s.data.toList).1.classes (Rd.read s.data.toList).1.methods) 0 (Rd.read s.data.toList).1.methods) w f
  (fun c p q t v z A B C D b F g j l m=>by
   rw[M3]at c;obtain⟨k,_,_⟩:=Ke _ c;exact Bb8 k g j l m)
 rw[Bcp]at h;exact h
structure Od where
 fr:Be
 st:Bool
 ri:Bool
 wa:Bool
def Jz:Od:=⟨⟨[],[]⟩,false,false,false⟩
structure Bt where
 sp:List Od
 hop:Bool
def Bt.at(s:Bt)(q:Nat):Od:=s.sp.getD q Jz
def Bt.put(s:Bt)(q:Nat)(y:Be):Bt:=⟨s.sp.set q ⟨y,true,true,(s.at q).wa⟩,s.hop⟩
def Bt.stop(s:Bt):Bt:=⟨s.sp,true⟩
def Bt.want(s:Bt)(q:Nat):Bt:=⟨s.sp.set q ⟨(s.at q).fr,(s.at q).st,(s.at q).ri,true⟩,s.hop⟩
def Bt.calm(s:Bt)(q:Nat):Bt:=⟨s.sp.set q ⟨(s.at q).fr,(s.at q).st,false,(s.at q).wa⟩,s.hop⟩
def Lv (T:TI)(x y:Be):Be:=⟨List.zipWith (Tr.joinT T) x.locals y.locals,List.zipWith (Tr.joinT T) x.stack y.stack⟩
def D9 (T:TI)(hi:Int)(x:Be)(q:Int)(s:Bt):Bt :=
 if q<0\/(s.sp.length:Int)<=q\/hi<(x.stack.length:Int) then s.stop
 else if (s.at q.toNat).st=false then s.put q.toNat x
 else if Hx T x (s.at q.toNat).fr=true then s
 else if x.locals.length=(s.at q.toNat).fr.locals.length/\x.stack.length=(s.at q.toNat).fr.stack.length then s.put q.toNat (Lv T x (s.at q.toNat).fr)
 else s.stop
def Vt (q:Int)(s:Bt):Bt:=if 0<=q/\q<(s.sp.length:Int) then s.want q.toNat else s
def Ie (T:TI)(hi:Int)(x:Be)(q:Int)(s:Bt):Bt:=Vt q (D9 T hi x q s)
def Dy (T:TI)(hi:Int)(p:Int)(lo:TP):List Rd.Hnd->Bt->Bt
 | [],s=>s
 | h::r,s=>Dy T hi p lo r (if El h p=true then Ie T hi ⟨lo,[(3,h.cl)]⟩ h.target s else s)
def Mj (T:TI)(hi:Int)(hs:List Rd.Hnd)(bh:Cd.Ins->Be->Option Be)(i:Cd.Ins)(x:Be)(s:Bt):Bt :=
 match bh i x with
 | none=>(Dy T hi i.place x.locals hs s).stop
 | some y =>
  let s1:=Dy T hi i.place x.locals hs s
  let s2:=if Dx i.op=true then Ie T hi y i.n s1 else s1
  if Dz i.op=true then D9 T hi y (i.place+(Cd.wd i.op:Int)) s2 else s2
def Ct (lk:Cd.Ins->Be->Bt->Bt):List Cd.Ins->Bool->Bt->Bt × Bool
 | [],b,s=>(s,b)
 | i::r,b,s=>if (s.sp.length:Int)<=i.place\/(s.at i.place.toNat).ri=false then Ct lk r b s
  else Ct lk r true (lk i (s.at i.place.toNat).fr (s.calm i.place.toNat))
def Ku (lk:Cd.Ins->Be->Bt->Bt)(L:List Cd.Ins):Nat->Bt->Bt
 | 0,s=>s
 | n+1,s=>if (Ct lk L false s).2=true/\(Ct lk L false s).1.hop=false then Ku lk L n (Ct lk L false s).1 else (Ct lk L false s).1
def Fp:Nat->List Od->List Rd.Mp
 | _,[]=>[]
 | k,p::r=>if p.wa=true then ⟨(k:Int),p.fr.locals,p.fr.stack⟩::Fp (k+1) r else Fp (k+1) r
def Ul (T:TI)(t:Int × Int):Nat:=if t.1=0 then 0 else if t.1=3 then 1+t.2.toNat else if t.1=2 then T.length+1 else 1
def Rl (T:TI)(l:TP):Nat:=(l.map (Ul T)).sum
def Xb (T:TI)(x:Be):Nat:=Rl T x.locals+Rl T x.stack
def Bsu(h:Tr.Ok z){a b:Int×Int}(m:Tr.Arg z a.1 a.2)(i:Tr.Arg z b.1 b.2):Ul z (Tr.joinT z a b)<=Ul z b/\(Tr.fitsB z a.1 a.2 b.1 b.2=false->Ul z (Tr.joinT z a b)<Ul z b):=by
 obtain⟨k,n⟩:=a;obtain⟨c,f⟩:=b;simp only at m i;obtain⟨j,l,p,t⟩:=Tr.join_spec h m i;simp only;by_cases g:Tr.fitsB z k n c f=true
 ·have e:Tr.joinT z (k,n) (c,f)=(c,f):=by unfold Tr.joinT;rw[Sp g]
  rw[e,g];exact⟨Wf _,fun h=>by simp at h⟩
 have q:Tr.joinT z (k,n) (c,f)≠(c,f):=fun e=>g (by rw[e]at l;exact l);generalize Tr.joinT z (k,n) (c,f)=J at *;obtain⟨a,b⟩:=J;simp only at j l p;have:Ul z (a,b)<Ul z (c,f):=by
  unfold Ul;simp only;rcases(Tr.fits_iff ..).1 p with ⟨rfl,rfl⟩ | e|⟨rfl,rfl⟩|⟨rfl,rfl,e⟩
  ·exact absurd rfl q
  ·subst e;have s:c≠0:=by
    rintro rfl;exact g ((Tr.fits_iff ..).2 (.inr (.inl rfl)))
   rw[Sp rfl,Pf s]
   split
   ·omega
   split<;>omega
  ·unfold Tr.Arg at j;rw[Pf Ck,Sp rfl,Pf Ck,Pf Ck,Sp rfl];omega
  unfold Tr.Arg at j i;have:=Tr.below_lt h (a:=f) (b:=b) Bd Bd e;rw[Pf Ck,Sp rfl,Pf Ck,Sp rfl];omega
 exact⟨Bwr this,fun _=>this⟩
def Bbl(h:Tr.Ok z):∀(a b:TP),(∀t∈a,Tr.Arg z t.1 t.2)->(∀t∈b,Tr.Arg z t.1 t.2)->a.length=b.length ->
  Rl z (List.zipWith (Tr.joinT z) a b)<=Rl z b/\(Ee z a b=false->Rl z (List.zipWith (Tr.joinT z) a b)<Rl z b)
 | [],[],_,_,_=>⟨Wf _,fun h=>by simp[Ee]at h⟩
 | [],y::b,_,_,hl=>by simp at hl
 | x::a,[],_,_,hl=>by simp at hl
 | x::a,y::b,ha,hb,hl=>by
  have i:=Bsu h (ha x Fr) (hb y Fr);have e:=Bbl h a b (fun t c=>ha t (by simp[c])) (fun t c=>hb t (by simp[c])) (by simpa using hl);unfold Rl at e ⊢;simp only[B0m,Bwm,List.sum_cons];refine⟨Bd,fun f=>?_⟩;unfold Ee at f;by_cases g:Tr.fitsB z x.1 x.2 y.1 y.2=true
  ·have:Ee z a b=false:=by simpa[g] using f
   have:=e.2 this;omega
  have:=i.2 (by simpa using g);omega
def Bsy(h:Tr.Ok z){y:Be}(c:Ey z x)(e:Ey z y)(f:x.locals.length=y.locals.length)(g:x.stack.length=y.stack.length)(b:Hx z x y=false):Xb z (Lv z x y)<Xb z y:=by
 have j:=Bbl h x.locals y.locals c.1 e.1 f;have l:=Bbl h x.stack y.stack c.2 e.2 g;unfold Hx Mu at b;rw[Sp f,Sp g]at b;unfold Xb Lv;simp only;by_cases i:Ee z x.locals y.locals=true;·have:=l.2 (by simpa[i] using b);omega
 have:=j.2 (by simpa using i);omega
def Bg4:∀(l:TP),(∀t∈l,Tr.Arg z t.1 t.2)->Rl z l<=(z.length+1)*l.length
 | [],_=>by simp[Rl]
 | x::l,h=>by
  have b:=Bg4 l (fun t c=>h t (by simp[c]));have e:=h x Fr;have:Ul z x<=z.length+1:=by
   unfold Ul;unfold Tr.Arg at e
   split
   ·omega
   split
   ·omega
   split<;>omega
  unfold Rl at b ⊢;simp only[Bwm,List.sum_cons,Bvo,Nat.mul_succ];omega
def Ll (T:TI)(lo:Nat)(hi:Int)(isN:Int->Prop)(s:Bt):Prop:=∀p∈s.sp,(p.st=true->J6 T lo hi isN p.fr)/\(p.ri=true->p.st=true)
def If (T:TI)(K:Nat)(p:Od):Nat:=if p.st=true then Xb T p.fr else K
def Mx (T:TI)(K:Nat)(s:Bt):Nat:=(s.sp.map (If T K)).sum*(s.sp.length+1)+s.sp.countP (fun p=>p.ri)
def Ay{α:Type}(f:α->Nat)(d y:α):∀(l:List α) (i:Nat),i<l.length->((l.set i y).map f).sum+f (l.getD i d)=(l.map f).sum+f y
 | [],_,h=>by simp at h
 | x::l,0,_=>Fm
 | x::l,i+1,h=>by
  have:=Ay f d y l i (by simpa using h);simp at this ⊢;omega
def W6{α:Type}(f:α->Bool)(d y:α):∀(l:List α) (i:Nat),i<l.length->(l.set i y).countP f+(if f (l.getD i d)=true then 1 else 0)=l.countP f+(if f y=true then 1 else 0)
 | [],_,h=>by simp at h
 | x::l,0,_=>by
  simp only[Byw,List.countP_cons,List.getD_cons_zero];omega
 | x::l,i+1,h=>by
  have:=W6 f d y l i (by simpa using h);simp only[Bwf,List.countP_cons,B01];omega
def Jf{s:Bt}{q:Nat}(h:q<s.sp.length):s.at q∈s.sp:=by
 unfold Bt.at;rw[Th,Ws h];exact Bvh _
structure Io(T:List Int)(lo:Nat)(hi:Int)(isN:Int->Prop)(K:Nat)(s s':Bt):Prop where
 ok:Ll T lo hi isN s'
 len:s'.sp.length=s.sp.length
 mu:Mx T K s'<=Mx T K s
def Io.refl{b:Int->Prop}{s:Nat}{Y:Bt}(h:Ll z u c b Y):Io z u c b s Y Y:=⟨h,rfl,Wf _⟩
def Io.trans{f:Int->Prop}{s:Nat}{a b e:Bt}(h:Io z u c f s a b)(g:Io z u c f s b e):Io z u c f s a e:=⟨g.ok,g.len.trans h.len,Bvv g.mu h.mu⟩
def Io.stop{b:Int->Prop}{s:Nat}{Y:Bt}(h:Ll z u c b Y):Io z u c b s Y Y.stop:=⟨h,rfl,Wf _⟩
def Io.put{b:Int->Prop}{s:Nat}{Y:Bt}(h:Ll z u c b Y){j:Nat}(g:j<Y.sp.length){y:Be}(m:J6 z u c b y)(t:Xb z y<If z s (Y.at j)):Io z u c b s Y (Y.put j y):=by
 refine⟨fun p f=>?_,by simp[Bt.put],?_⟩
 ·rcases Bw6 f with f|rfl
  ·exact h p f
  exact⟨fun _=>m,fun _=>rfl⟩
 have i:=Ay (If z s) Jz ⟨y,true,true,(Y.at j).wa⟩ Y.sp j g;have l:=W6 (fun p:Od=>p.ri) Jz ⟨y,true,true,(Y.at j).wa⟩ Y.sp j g;unfold Mx Bt.put;simp only[Bv7];unfold Bt.at at t i l ⊢;simp only[By3]at l;have e:If z s ⟨y,true,true,(Y.sp.getD j Jz).wa⟩=Xb z y:=by unfold If;rw[Sp rfl]
 rw[e]at i;have v:((Y.sp.set j ⟨y,true,true,(Y.sp.getD j Jz).wa⟩).map (If z s)).sum+1<=(Y.sp.map (If z s)).sum:=Bd;have A:=Bze (Y.sp.length+1) v;rw[Nat.add_mul]at A;omega
def Io.want{g:Int->Prop}{s:Nat}{Y:Bt}(h:Ll z u c g Y){j:Nat}(b:j<Y.sp.length):Io z u c g s Y (Y.want j):=by
 refine⟨fun p f=>?_,by simp[Bt.want],?_⟩
 ·rcases Bw6 f with f|rfl
  ·exact h p f
  exact⟨(h _ (Jf b)).1,(h _ (Jf b)).2⟩
 have i:=Ay (If z s) Jz ⟨(Y.at j).fr,(Y.at j).st,(Y.at j).ri,true⟩ Y.sp j b;have l:=W6 (fun p:Od=>p.ri) Jz ⟨(Y.at j).fr,(Y.at j).st,(Y.at j).ri,true⟩ Y.sp j b;unfold Mx Bt.want;simp only[Bv7];have e:If z s ⟨(Y.at j).fr,(Y.at j).st,(Y.at j).ri,true⟩=If z s (Y.at j):=rfl;unfold Bt.at at i l e ⊢;rw[e]at i;simp only at l;have m:((Y.sp.set j ⟨(Y.sp.getD j Jz).fr,(Y.sp.getD j Jz).st,(Y.sp.getD j Jz).ri,true⟩).map (If z s)).sum=(Y.sp.map (If z s)).sum:=Bd;rw[m];omega
def Vh{g:Int->Prop}{K:Nat}{Y:Bt}(h:Ll z u c g Y){j:Nat}(b:j<Y.sp.length)(i:(Y.at j).ri=true):Ll z u c g (Y.calm j)/\(Y.calm j).sp.length=Y.sp.length/\Mx z K (Y.calm j)<Mx z K Y:=by
 refine⟨fun p f=>?_,by simp[Bt.calm],?_⟩
 ·rcases Bw6 f with f|rfl
  ·exact h p f
  exact⟨(h _ (Jf b)).1,fun h=>by simp at h⟩
 have l:=Ay (If z K) Jz ⟨(Y.at j).fr,(Y.at j).st,false,(Y.at j).wa⟩ Y.sp j b;have m:=W6 (fun p:Od=>p.ri) Jz ⟨(Y.at j).fr,(Y.at j).st,false,(Y.at j).wa⟩ Y.sp j b;unfold Mx Bt.calm;simp only[Bv7];have e:If z K ⟨(Y.at j).fr,(Y.at j).st,false,(Y.at j).wa⟩=If z K (Y.at j):=rfl;unfold Bt.at at l m e i ⊢;rw[e]at l;simp only[i,By3,Bye,Bxk]at m;have t:((Y.sp.set j ⟨(Y.sp.getD j Jz).fr,(Y.sp.getD j Jz).st,false,(Y.sp.getD j Jz).wa⟩).map (If z K)).sum=(Y.sp.map (If z K)).sum:=Bd;rw[t];omega
def J6.arg{e:Int->Prop}(h:J6 z u c e x):Ey z x:=⟨fun t b=>(h.tl t b).1,fun t b=>(h.ts t b).1⟩
def Bss(h:Tr.Ok z){c:Int->Prop}{a b:Int×Int}(e:Dj z c a)(f:Dj z c b):Dj z c (Tr.joinT z a b):=by
 have j:=(Tr.join_spec h (k:=a.1) (n:=a.2) (k':=b.1) (n':=b.2) e.1 f.1).1;refine⟨j,?_⟩;unfold Tr.joinT
 split
 ·exact f.2
 split
 ·exact e.2
 split
 ·intro h;simp at h
 split
 ·intro h;simp at h
 intro h;simp at h
def Bfr(h:Tr.Ok z){e:Int->Prop}:∀(a b:TP),(∀t∈a,Dj z e t)->(∀t∈b,Dj z e t)->∀t∈List.zipWith (Tr.joinT z) a b,Dj z e t
 | [],_,_,_,t,c=>by simp at c
 | _::_,[],_,_,t,c=>by simp at c
 | x::a,y::b,ha,hb,t,c=>by
  simp only[B0m,Bxy]at c;rcases c with rfl|c
  ·exact Bss h (ha x Fr) (hb y Fr)
  exact Bfr h a b (fun t c=>ha t (by simp[c])) (fun t c=>hb t (by simp[c])) t c
def Bg0(h:Tr.Ok z){e:Int->Prop}{y:Be}(b:J6 z u c e x)(f:J6 z u c e y):J6 z u c e (Lv z x y):=by
 refine⟨?_,?_,Bfr h _ _ b.tl f.tl,Bfr h _ _ b.ts f.ts⟩
 ·have:=b.lo;have:=f.lo;simp[Lv];omega
 have:=b.hi;simp[Lv];omega
def Bu9{e:Int->Prop}(b:J6 z u c e x):Xb z x<(z.length+1)*(u+c.toNat)+1:=by
 have f:=Bg4 x.locals b.arg.1;have h:=Bg4 x.stack b.arg.2;have g:=b.lo;have i:=b.hi;have j:=Nat.mul_le_mul_left (z.length+1) (show x.stack.length<=c.toNat by omega);unfold Xb;rw[Nat.mul_add];rw[g]at f;omega
def Rv (T:TI)(lo:Nat)(hi:Int):Nat:=(T.length+1)*(lo+hi.toNat)+1
def Be3(h:Tr.Ok z){e:Int->Prop}{s:Bt}(b:Ll z u c e s)(i:x.locals.length=u)(j:∀t∈x.locals,Dj z e t)(l:∀t∈x.stack,Dj z e t)(q:Int):Io z u c e (Rv z u c) s (D9 z c x q s):=by
 unfold D9
 split
 ·exact .stop b
 next hn =>
 have f:J6 z u c e x:=⟨i,Bd,j,l⟩
 split
 ·next h1=>exact .put b Bd f (by unfold If;rw[Pf (by simp[h1])];exact Bu9 f)
 next h1 =>
 split
 ·exact .refl b
 next h2 =>
 split
 ·next h3 =>
  have g:=(b _ (Jf (s:=s) (q:=q.toNat) Bd)).1 (by simpa using h1);exact .put b Bd (Bg0 h f g) (by unfold If;rw[Sp (by simpa using h1)];exact Bsy h f.arg g.arg h3.1 h3.2 (by simpa using h2))
 exact .stop b
def Bso{b:Int->Prop}{s:Nat}{Y:Bt}(e:Ll z u c b Y)(q:Int):Io z u c b s Y (Vt q Y):=by
 unfold Vt
 split
 ·exact .want e Bd
 exact .refl e
def Bji(h:Tr.Ok z){b:Int->Prop}{Y:Bt}(f:Ll z u c b Y)(g:x.locals.length=u)(i:∀t∈x.locals,Dj z b t)(j:∀t∈x.stack,Dj z b t)(q:Int):Io z u c b (Rv z u c) Y (Ie z c x q Y):=by
 have e:=Be3 h f g i j q;exact e.trans (Bso e.ok q)
def Bax(h:Tr.Ok z){e:Int->Prop}(g:x.locals.length=u)(f:∀t∈x.locals,Dj z e t)(p:Int):∀(i:List Rd.Hnd),(∀y∈i,Tr.Arg z 3 y.cl)->∀{s:Bt},Ll z u c e s->Io z u c e (Rv z u c) s (Dy z c p x.locals i s)
 | [],_,s,h0=>.refl h0
 | y::r,hy,s,h0=>by
  unfold Dy;have j:Io z u c e (Rv z u c) s (if El y p=true then Ie z c ⟨x.locals,[(3,y.cl)]⟩ y.target s else s):=by
   split
   ·exact Bji (x:=⟨x.locals,[(3,y.cl)]⟩) h h0 g f (by intro t f;rw[List.mem_singleton.1 f];exact⟨hy y Fr,fun h=>by simp at h⟩) _
   exact .refl h0
  exact j.trans (Bax h g f p r (fun b l=>hy b (by simp[l])) j.ok)
def Bsq(h:Tr.Ok z){f:Int->Prop}(m:J6 z u c f x){g:List Rd.Hnd}(q:∀y∈g,Tr.Arg z 3 y.cl){p:Cd.Ins->Be->Option Be}{i:Cd.Ins}(t:∀y,p i x=some y->J6 z u c f y){Y:Bt}(v:Ll z u c f Y):Io z u c f (Rv z u c) Y (Mj z c g p i x Y):=by
 have j:=Bax h m.lo m.tl i.place g q v;unfold Mj
 split
 ·exact j.trans (.stop j.ok)
 next y e =>
 have b:=t y e;have l:Io z u c f (Rv z u c) Y (if Dx i.op=true then Ie z c y i.n (Dy z c i.place x.locals g Y) else Dy z c i.place x.locals g Y):=by
  split
  ·exact j.trans (Bji h j.ok b.lo b.tl b.ts _)
  exact j
 simp only
 split
 ·exact l.trans (Be3 h l.ok b.lo b.tl b.ts _)
 exact l
def Xu{T:TI}{lo:Nat}{hi:Int}{isN:Int->Prop}{K:Nat}{lk:Cd.Ins->Be->Bt->Bt}:∀(L:List Cd.Ins),(∀i∈L,0<=i.place) ->
  (∀i∈L,∀x s,J6 T lo hi isN x->Ll T lo hi isN s->Io T lo hi isN K s (lk i x s)) ->
  ∀(b:Bool) {s:Bt},Ll T lo hi isN s->Io T lo hi isN K s (Ct lk L b s).1/\((Ct lk L b s).2=true->b=false->Mx T K (Ct lk L b s).1<Mx T K s)
 | [],_,_,b,s,h0=>⟨.refl h0,fun h g=>by simp[Ct,g]at h⟩
 | i::r,hp,hk,b,s,h0=>by
  unfold Ct;have l:=fun b {s:Bt} h0=>Xu (T:=T) (lo:=lo) (hi:=hi) (isN:=isN) (K:=K) (lk:=lk) r (fun z c=>hp z (by simp[c])) (fun z c=>hk z (by simp[c])) b (s:=s) h0
  split
  ·exact l b h0
  next hn =>
  have v:=hp i Fr;have m:(s.at i.place.toNat).ri=true:=by
   cases h:(s.at i.place.toNat).ri with
   | true=>rfl
   | false=>exact absurd (.inr h) hn
  have e:i.place.toNat<s.sp.length:=by
   have:¬(s.sp.length:Int)<=i.place:=fun h=>hn (.inl h);omega
  obtain⟨p,q,A⟩:=Vh (K:=K) h0 e m;have t:=(h0 _ (Jf e)).1 ((h0 _ (Jf e)).2 m);have f:=hk i Fr _ _ t p;have j:=(l true f.ok).1;have B:=Bvv j.mu f.mu;exact⟨⟨j.ok,j.len.trans (f.len.trans q),Bd⟩,fun _ _=>Bd⟩
def Zi{f:Int->Prop}{K:Nat}{b:Cd.Ins->Be->Bt->Bt}{L:List Cd.Ins}(g:∀i∈L,0<=i.place)
 (j:∀i∈L,∀x s,J6 z u c f x->Ll z u c f s->Io z u c f K s (b i x s)):∀(n m:Nat) {s:Bt},Ll z u c f s->Mx z K s<n->Mx z K s<m->Ku b L n s=Ku b L m s
 | 0,_,s,_,h,_=>absurd h Bd
 | n+1,0,s,_,_,h=>absurd h Bd
 | n+1,m+1,s,h0,hn,hm=>by
  have l:=Xu (K:=K) L g j false h0;unfold Ku;by_cases e:(Ct b L false s).2=true/\(Ct b L false s).1.hop=false;·rw[Sp e,Sp e];have:=l.2 e.1 rfl;exact Zi g j n m l.1.ok Bd Bd
  rw[Pf e,Pf e]
def Ye (T:TI)(K:Nat)(lk:Cd.Ins->Be->Bt->Bt)(L:List Cd.Ins)(s:Bt):Bt:=Ku lk L (Mx T K s+1) s
def Boj{f:Int->Prop}{K:Nat}{b:Cd.Ins->Be->Bt->Bt}{L:List Cd.Ins}(g:∀i∈L,0<=i.place) (h:∀i∈L,∀x Y,J6 z u c f x->Ll z u c f Y->Io z u c f K Y (b i x Y)){Y:Bt}(l:Ll z u c f Y):Ye z K b L Y=if (Ct b L false Y).2=true/\(Ct b L false Y).1.hop=false then Ye z K b L (Ct b L false Y).1 else (Ct b L false Y).1:=by
 have j:=Xu (K:=K) L g h false l;unfold Ye;rw[Ku];by_cases e:(Ct b L false Y).2=true/\(Ct b L false Y).1.hop=false;·rw[Sp e,Sp e];have:=j.2 e.1 rfl;exact Zi g h _ _ j.1.ok Bd Bd
 rw[Pf e,Pf e]
end Go.Proofs.YtpcgnjolfahacaaGreat
