/- the proof's parts -/
import Derived.Test.YtpcgnjolfahacaaGreatPk06
set_option maxRecDepth 100000
set_option maxHeartbeats 40000000
set_option linter.unusedVariables false
set_option linter.unusedSimpArgs false
set_option linter.defProp false
namespace Go.Proofs.YtpcgnjolfahacaaGreat
open Go.RowKit Go.Proofs.Tryz
variable {ya:Option Addr}{yn yc:Nat}
def L4 (T:TI)(a b:TP):Bool:=if a.length=b.length then Ee T a b else false
def Km (T:TI)(x y:Bf):Bool:=L4 T x.locals y.locals&&L4 T x.stack y.stack
def Ao(T:TI)(m z:Nat)(a b:TP)(aa ab:TA)(an ac bn bc:Nat)(w:TW)(hl:T.length<=1000)(hT:Dy w m T)(ha:TyR w (.s aa an ac) a)(hb:TyR w (.s ab bn bc) b)(b3:a.length<=10000)(b4:b.length<=10000):Calls prog 218 #[.agg #[.s (.p m) T.length z,.s ya yn yc],.s aa an ac,.s ab bn bc] w fun e q=>e=.r (.bool (L4 T a b))/\Bl w q:=by
 obtain⟨e1,-,-⟩:=ha.cap;obtain⟨e2,-,-⟩:=hb.cap;subst e1 e2;unfold L4;have I:Bl w (w.alloc (O2 (.p m) T.length z ya yn yc)):=QN _;have T0:=Be w (O2 (.p m) T.length z ya yn yc);by_cases h:a.length=b.length
 ·rw[Th h];generalize j:Ee T a b=r;have B:Hid (Ee T (a.drop 0) (b.drop 0)=r):=j;have a9:((a.length:Int) != (b.length:Int))=false:=by simp[h]
  have b0:=Bc h;clear j h;go_in;go_wp2
  go_loopw [16] (fun v wr=>∃k:Nat,k<=a.length/\v=.i (k:Int)/\Hid (Ee T (a.drop k) (b.drop k)=r)/\Bl w wr/\wr.heap[w.heap.size]?=some (O2 (.p m) T.length z ya yn yc))
   (fun v _=>a.length-(intOf v).toNat)
  case atStart=>exact⟨0,Ck,rfl,B,I,T0⟩
  case round=>
   clear B I T0;obtain⟨k,hk,rfl,B,D,F⟩:=hrel;have b1:=D.size;have h:=Ba b0;by_cases a0:k<a.length
   ·have a1:k<b.length:=Ck;obtain⟨g,o,rfl,hg,a2⟩:=(ha.below D).at Ck;obtain⟨g2,G,rfl,a3,a4⟩:=(hb.below D).at Ck;obtain⟨x0,x1⟩:=a2 k a0;obtain⟨J,K⟩:=a4 k a1;have a5:a.drop k=a[k]::a.drop (k+1):=Brj a0;have a6:b.drop k=b[k]::b.drop (k+1):=Brj a1;have j:=Ba B;rw[a5,a6,Ee]at j;generalize a[k]=s at *;generalize b[k]=t at *;obtain⟨c,f⟩:=s;obtain⟨L,N⟩:=t;simp only at x0 x1 J K j;have O:(wr.alloc (O7 c f)).C w.heap.size 0 (.s (.p m) T.length z):=(Bb (Bg F (O7 c f)) 0).trans rfl;have Q:(wr.alloc (O7 c f)).C w.heap.size 1 (.s ya yn yc):=(Bb (Bg F (O7 c f)) 1).trans rfl;have V:(wr.alloc (O7 c f)).C wr.heap.size 0 (.i c):=(Bb (Be wr (O7 c f)) 0).trans rfl;have Y:(wr.alloc (O7 c f)).C wr.heap.size 1 (.i f):=(Bb (Be wr (O7 c f)) 1).trans rfl;have Z:=(Bsu wr (O7 c f) ⟨g2,G+k*2,none⟩ a3).trans J;have z1:=(Bsu wr (O7 c f) ⟨g2,G+k*2+1,none⟩ a3).trans K;have lF:=Sp (Bg F (O7 c f));have lP:=Sp (Be wr (O7 c f));have lG:g2<(wr.alloc (O7 c f)).heap.size:=Fr;have a7:=(D.alloc b1 (O7 c f)).drew;have hc:=Bam (ya:=ya) (yn:=yn) (yc:=yc) T m z c f L N _ hl (hT.below a7);generalize Tr.fitsB T c f L N=A at *;have HC:=Bc hc;have kb:(k:Int)<(a.length:Int):=Ck;have b5:(k:Int)<(b.length:Int):=Ck;clear a2 a4 a5 a6 hc B h;go_wp2
    go_region_held3 (fun q=>q.C w.heap.size 0 (.s (.p m) T.length z)/\q.C w.heap.size 1 (.s ya yn yc)/\q.C wr.heap.size 0 (.i c)/\q.C wr.heap.size 1 (.i f)/\q.C g2 (G+k*2) (.i L)/\q.C g2 (G+k*2+1) (.i N))
     (first|exact⟨O,Q,V,Y,Z,z1⟩|exact⟨QC l lF O,QC l lF Q,QC l lP V,QC l lP Y,QC l lG Z,QC l lG z1⟩)
     (first|(go_at_call 118;refine(Ba HC).mono ?_;rintro e w7 ⟨rfl,l⟩))
    have a8:=QB a7 l;have b2:=stay l (show (wr.alloc (O7 c f)).drew.heap[w.heap.size]?=_ from Bg F (O7 c f));clear l x0 x1 J K Z z1 O Q V Y HC;cases A with
    | true =>
     have HG:Hid (Ee T (a.drop (k+1)) (b.drop (k+1))=r):=by unfold Hid;rw[<- j];simp
     clear j;go_wp2;go_roundw
     case rel=>exact⟨k+1,Ck,Mg,HG,a8,b2⟩
     case measure=>simp[intOf];omega
    | false =>
     have HE:Hid (r=false):=by unfold Hid;rw[<- j];simp
     clear j;go_wp2;go_ret;exact⟨by rw[Ba HE];rfl,a8⟩
   have HE:Hid (r=true):=by unfold Hid;rw[<- Ba B,Brq (show b.length<=k by omega),Ee]
   have kb:¬(k:Int)<(a.length:Int):=Ck;clear B h;go_wp2;go_ret;exact⟨by rw[Ba HE];rfl,D⟩
 rw[Pk h];have a9:((a.length:Int) != (b.length:Int))=true:=Fr;clear h;go_in;go_wp2;go_ret;exact⟨rfl,I⟩
def Bjq(T:TI)(f g:Nat)(u v:FrV)(x y:Bf)(w:TW)(t:T.length<=1000)(z:Dy w f T)(i:u.is x w)(j:v.is y w):Calls prog 167 #[u.val,.agg #[.s (.p f) T.length g,.s ya yn yc],v.val] w fun e b=>e=.r (.bool (Km T x y))/\Bl w b:=by
 have m:=fun b (h:Bl w b)=>Ao (ya:=ya) (yn:=yn) (yc:=yc) T f g x.locals y.locals u.la v.la u.ln u.lc v.ln v.lc b t (z.below h) (i.lo.below h) (j.lo.below h) (by have:=i.hl;omega) (by have:=j.hl;omega);have q:=fun b (h:Bl w b)=>Ao (ya:=ya) (yn:=yn) (yc:=yc) T f g x.stack y.stack u.sa v.sa u.sn u.sc v.sn v.sc b t (z.below h) (i.st.below h) (j.st.below h) (by have:=i.hs;omega) (by have:=j.hs;omega);unfold Km;generalize L4 T x.locals y.locals=P at *;generalize L4 T x.stack y.stack=Q at *;obtain⟨A,B,C,D,F,G⟩:=u;obtain⟨I,J,K,L,N,O⟩:=v;simp only[FrV.val]at m q ⊢;have V:=Bc m;have H2:=Bc q;clear m q i j;have l:=Em w (O23 A B C D F G) (O2 (.p f) T.length g ya yn yc) (O23 I J K L N O);obtain⟨A0,Y,B0⟩:=Nz w (O23 A B C D F G) (O2 (.p f) T.length g ya yn yc) (O23 I J K L N O);cases P with
 | false =>
  go_in;go_wp2_with fail;refine Qm (Ba V _ l) ?_;intro w1 c;go_wp2;go_ret;exact⟨rfl,QB l c⟩
 | true =>
  go_in;go_wp2_with fail;refine Qb (Ba V _ l) l ?_;intro w1 c Z;have a1:=Bb (stay c A0) 1;have t0:=Bb (stay c Y) 0;have t1:=Bb (stay c Y) 1;have b1:=Bb (stay c B0) 1;simp at a1 t0 t1 b1;clear c;go_wp2_with fail;refine Qm (Ba H2 _ Z) ?_;intro w2 a0;go_wp2;go_ret;exact⟨rfl,QB Z a0⟩
def Bhi(m:Int)(v:FrV)(w:TW):Calls prog 233 #[.agg #[.i m,.s v.la v.ln v.lc,.s v.sa v.sn v.sc]] w fun e b=>e=.returned v.val/\Bl w b:=by
 obtain⟨c,f,g,h,j,l⟩:=v;simp only[FrV.val];go_in;go_wp2;refine tb (.agg #[.s c f g,.s h j l]) (by simp[results,results233,go_sem]) ?_;exact⟨rfl,Bu _ _ _⟩
def Bh4(c:Int)(v:FrV)(x:Bf)(w:TW)(D:v.is x w):Calls prog 261 #[v.val,.i c] w fun e m=>∃u:FrV,e=.returned u.val/\u.is ⟨x.locals,[(3,c)]⟩ m/\Bl w m:=by
 obtain⟨b,f,g,q,t,z⟩:=v;have F:=D.lo;have V:=D.hl;simp only[FrV.val]at F ⊢;clear D;have Y:=Bu w (O23 b f g q t z) (O23 none 0 0 none 0 0);have G:=Cb w (O23 b f g q t z) (O23 none 0 0 none 0 0);have I:=Bx w (O23 b f g q t z) (O23 none 0 0 none 0 0);have A:((w.alloc (O23 b f g q t z)).alloc (O23 none 0 0 none 0 0)).C w.heap.size 0 (.s b f g):=(Bb G 0).trans rfl;have B:=Sp G;have lR:=Sp I;go_in;go_wp2
 go_region_held3 (fun m=>m.C w.heap.size 0 (.s b f g))
  (first|exact A|exact QC j B A|exact QA (QL j B) (QC j B A)|exact(Bsu _ _ _ (by have:=j.size;simp at this ⊢;omega)).trans ((Brt _ _ _ _ Bd).trans ((Brt _ _ _ _ Bd).trans (QC j B A))))
  (first|(go_at_call 165;refine Qm (Ma c _) ?_;intro h j;have l:=stay j (show _=_ from I);have J:=Bb l 0;have K:=Bb l 1;have q0:=Bk l 0;have q1:=Bk l 1;have Z:=Sp l;simp at J K))
 have L:=Y.drew.trans (j.mono Fr);have a1:=L.size;have N:((h.setCell (.a (w.heap.size+1) 0) (.s b f g)).setCell (.a (w.heap.size+1) 1) (.s (.p h.heap.size) 1 1)).heap.size=h.heap.size:=by simp[World.setCell]
 have O:=TyR.new1 ((h.setCell (.a (w.heap.size+1) 0) (.s b f g)).setCell (.a (w.heap.size+1) 1) (.s (.p h.heap.size) 1 1)) 3 c;rw[N]at O;have Q:=((L.setCell (p:=.a (w.heap.size+1) 0) Hd (.s b f g)).setCell (p:=.a (w.heap.size+1) 1) Hd (.s (.p h.heap.size) 1 1)).alloc (by rw[N];exact a1) (O7 3 c);go_wp2_with fail;refine tb (.agg #[.s b f g,.s (.p h.heap.size) 1 1]) (by simp[results,results261,go_sem,J,K,Z]) ?_;exact⟨⟨b,f,g,some ⟨h.heap.size,0,none⟩,1,1⟩,rfl,⟨F.below Q,O,V,Hd⟩,Q⟩
def Fo (h:Rd.Hnd)(p:Int):Bool:=decide (h.frm<=p)&&decide (p<h.til)
def Af(h:Rd.Hnd)(p:Int)(w:TW):Calls prog 260 #[.agg #[.i h.frm,.i h.til,.i h.target,.i h.cl],.i p] w fun e c=>e=.r (.bool (Fo h p))/\Bl w c:=by
 obtain⟨f,g,l,m⟩:=h;unfold Fo;by_cases j:f<=p
 ·by_cases b:p<g;·go_in;go_wp2;go_ret;exact⟨by simp[j,b],QN _⟩
  go_in;go_wp2;go_ret;exact⟨by simp[b],QN _⟩
 go_in;go_wp2;go_ret;exact⟨Fr,QN _⟩
def Bfe(op:Int)(w:TW):Calls prog 222 #[.i op] w fun e b=>e=.r (.bool (Ei op))/\b=w:=by
 unfold Ei;by_cases h:op=11\/op=12\/op=13\/op=14
 ·rw[Bt5 h];rcases h with rfl|rfl|rfl|rfl
  all_goals
   go_in;go_wp2;go_ret;exact⟨rfl,rfl⟩
 rw[Buk h];have c:(op==11)=false:=Fr;have f:(op==12)=false:=Fr;have g:(op==13)=false:=Fr;have j:(op==14)=false:=Fr;clear h;go_in;go_wp2;go_ret;exact⟨rfl,rfl⟩
def Z9(op:Int)(w:TW):Calls prog 187 #[.i op] w fun e b=>e=.r (.bool (Dl op))/\b=w:=by
 unfold Dl;by_cases h:op=11\/op=22\/op=23
 ·rw[Buk (fun g=>g h)];rcases h with rfl|rfl|rfl
  all_goals
   go_in;go_wp2;go_ret;exact⟨rfl,rfl⟩
 rw[Bt5 h];have c:(op==11)=false:=Fr;have f:(op==22)=false:=Fr;have j:(op==23)=false:=Fr;clear h;go_in;go_wp2;go_ret;exact⟨rfl,rfl⟩
def Bg6(m:PM)(c:TP)(f:Nat)(w:TW)(c7:m.lo=(f:Int))(d6:f<=1000)(b1:TyR w (.s m.pa m.pl m.pc) c)(d7:c.length<=1000):Calls prog 110 #[m.val] w fun e w'=>∃v:FrV,e=.returned v.val/\v.is (Lg m.cl c f) w'/\Bl w w':=by
 obtain⟨i0,hi,b2,b3,b4⟩:=Bsa Tryz.infoType;obtain⟨p,nm,I,J,K,r1,r2,lo,st,ca,cn,cc,ha,hl,hc,ma,ml,mc⟩:=m;simp only[PM.val]at c7 b1 ⊢;subst c7;have c8:=fun w=>Ma p w;have d2:=Bc c8;clear c8;have a0:=Bu w (O18 p nm I J K r1 r2 (f:Int) st ca cn cc ha hl hc ma ml mc) (O23 none 0 0 none 0 0);have C0:=Cb w (O18 p nm I J K r1 r2 (f:Int) st ca cn cc ha hl hc ma ml mc) (O23 none 0 0 none 0 0);have D0:=Bx w (O18 p nm I J K r1 r2 (f:Int) st ca cn cc ha hl hc ma ml mc) (O23 none 0 0 none 0 0);unfold Lg;generalize hO:Iy p c=O;unfold Iy at hO
 -- what follows the head, for either head
 by_cases h1:p=255
 ·subst h1;rw[Th rfl,Btz]at hO;subst hO;go_in;go_wp2_with (at_builtin;refine Jo rfl _ _ rfl (w.heap.size+1+1) _ [] c I J K rfl (Brw _ _ _ _) rfl (b1.below a0) Fr Hd ?_)
  intro v' w1 a1 C;have L:=a0.grown C Fr (fun j D=>by simp[Value.ownBlock]at D);have C1:=(C.block _ (Sp C0) (by simp[Value.ownBlock])).trans C0;have D1:=(C.block _ (Sp D0) (by simp[Value.ownBlock])).trans D0;clear C C0 D0 a0;have b5:=L.size;have a2:w1.ownsRow (w.heap.size+1+1) 31 2 v' (c++List.replicate 0 ((0:Int),(0:Int))).length (Bp (c++List.replicate 0 ((0:Int),(0:Int)))):=by simpa using a1
  go_wp2
  go_loopw [3] (fun v wr=>∃q:Nat,q<=f-c.length/\wr.ownsRow (w.heap.size+1+1) 31 2 v (c.length+q) (Bp (c++List.replicate q ((0:Int),(0:Int))))/\Bl w wr/\wr.heap[w.heap.size]?=some (O18 255 nm I J K r1 r2 (f:Int) st ca cn cc ha hl hc ma ml mc)/\wr.heap[w.heap.size+1]?=some (O23 none 0 0 none 0 0))
   (fun v _=>f-lenOf v)
  case atStart=>exact⟨0,Ck,by simpa using a2,L,C1,D1⟩
  case round=>
   clear a1 a2 L C1 D1 b5;obtain⟨q,hq,h,z,t,l⟩:=hrel;have N:=z.size;have lC:=Sp t;have lD:=Sp l;obtain⟨Q,V,rfl⟩:=Bh h;have x5:=Bb t 5;simp at x5;by_cases d3:c.length+q<f
   ·have kb:((c.length+q:Nat):Int)<(f:Int):=Ck;have HD:Hid (c++List.replicate (q+1) ((0:Int),(0:Int))=c++List.replicate q ((0:Int),(0:Int))++[((0:Int),(0:Int))]):=by unfold Hid;rw[Bue,Bsi]
    go_wp2_with fail;refine Qm (Vr _) ?_;intro wt A;replace h:=Dc h (Kp.of_below (e:=none) A) Fm;replace z:=z.trans (A.mono N);replace t:=stay A t;replace l:=stay A l;replace N:=z.size;replace lC:=Sp t;replace lD:=Sp l;clear A x5;go_wp2_with (at_builtin;refine Br3 _ rfl _ _ 105 rfl (w.heap.size+1+1) 31 i0 _ 2 16 Bsk hi b2 b3 b4 rfl Fm _ _ _ rfl (h.alloc _) ⟨wt.heap.size,0,none⟩ 1 1 [.i 0,.i 0] rfl rfl ?c1 ?c2 ?c3 ?c4 ?c5 ?_)
    case c1=>exact Dh _ _ _ _ rfl
    case c2=>intro u G;simp at G;subst G;rfl
    case c3=>unfold maxLen;omega
    case c4=>omega
    case c5=>simp;omega
    intro v2 w2 Y F _;have b6:=(z.alloc N (O7 0 0)).grown F Fr (fun j D=>by have:=(h.lt j D).1;omega);have C2:=(F.block _ (Sp (Bg t (O7 0 0))) (fun B=>by have:=(h.lt _ B.symm).1;omega)).trans (Bg t (O7 0 0));have D2:=(F.block _ (Sp (Bg l (O7 0 0))) (fun B=>by have:=(h.lt _ B.symm).1;omega)).trans (Bg l (O7 0 0));obtain⟨b7,b8,rfl⟩:=Bh Y;have Z:w2.ownsRow (w.heap.size+1+1) 31 2 (.s b7 (c.length+q+1) b8) (c.length+(q+1)) (Bp (c++List.replicate (q+1) ((0:Int),(0:Int)))):=by rw[Ba HD,Ib];exact Y
    clear F h Y z t l;go_wp2;go_roundw
    case rel=>exact⟨q+1,Ck,Z,b6,C2,D2⟩
    case measure=>simp[lenOf];omega
   have kb:¬((c.length+q:Nat):Int)<(f:Int):=Ck;have eq:f-c.length=q:=Ck;obtain⟨z0,z1⟩:=cl2 l;obtain⟨q0,q1⟩:=fr2 l;simp at z0 z1;have b9:=(Kp.set_lo (e:=none) (b:=w.heap.size+1+1) (i:=0) (g:=w.heap.size+1) (w:=wr) Ck (.s Q (c.length+q) V)).trans (Kp.set_lo (i:=1) (g:=w.heap.size+1) Ck (.s none 0 0));have Z:=Dc h b9 Fm;have a3:=Bc eq;clear eq;go_wp2_with fail;refine tb (.agg #[.s Q (c.length+q) V,.s none 0 0]) (by simp[results,results110,go_sem,z0,z1]) ?_;refine⟨⟨Q,c.length+q,V,none,0,0⟩,rfl,⟨?_,TyR.nil _,?_,Bsb _⟩,(z.setCell Hd _).setCell Hd _⟩
   ·rw[Ba a3];exact Gw Z Hd
   rw[Ba a3];simp;omega
 have d8:(p != 255)=true:=by simpa using h1
 rw[Pk h1]at hO;clear h1;go_in;go_wp2_with fail;refine Qb (Ba d2 _) a0 ?_;intro w0 c0 c6;have a4:=stay c0 C0;have a7:=stay c0 D0;have d4:=c6.size;have d9:=Sp a7;have x2:=Bb a4 2;have f0:=Sp a4;simp at x2;go_wp2_with (at_builtin;refine Br3 _ rfl _ _ 105 rfl (w.heap.size+1+1) 31 i0 _ 2 16 Bsk hi b2 b3 b4 rfl Fm _ _ _ rfl (Brw _ _ _ _) ⟨w0.heap.size,0,none⟩ 1 1 [.i 3,.i p] rfl rfl ?c1 ?c2 ?c3 ?c4 ?c5 ?_)
 case c1=>exact Dh _ _ _ _ rfl
 case c2=>intro u G;simp at G;rcases G with rfl|rfl<;>rfl
 case c3=>unfold maxLen;omega
 case c4=>omega
 case c5=>simp;omega
 intro v0 d5 c9 a8 _;have a9:=(c6.alloc d4 (O7 3 p)).grown a8 Fr (fun j D=>by simp[Value.ownBlock]at D);have a5:=(a8.block _ (Sp (Bg a4 (O7 3 p))) (by simp[Value.ownBlock])).trans (Bg a4 (O7 3 p));have b0:=(a8.block _ (Sp (Bg a7 (O7 3 p))) (by simp[Value.ownBlock])).trans (Bg a7 (O7 3 p));have a6:d5.ownsRow (w.heap.size+1+1) 31 2 v0 ([((3:Int),p)]:TP).length (Bp [((3:Int),p)]):=by simpa[Bp] using c9
 have f1:=a9.size;have f2:=Sp b0;have f3:=Sp a5;have d0:=Bb a5 2;simp at d0;clear a8 c9 C0 D0 a0 c0 a4 a7 c6 x2;go_wp2_with (at_builtin;refine Jo rfl _ _ rfl (w.heap.size+1+1) _ [(3,p)] c I J K rfl a6 rfl (b1.below a9) Fr Ck ?_)
 intro v' w1 a1 C;have L:=a9.grown C Ck (fun j D=>by have:=(a6.lt j D).1;omega);have C1:=(C.block _ (Sp a5) (fun B=>by have:=(a6.lt _ B.symm).1;omega)).trans a5;have D1:=(C.block _ (Sp b0) (fun B=>by have:=(a6.lt _ B.symm).1;omega)).trans b0;have d1:([((3:Int),p)]++c).length<=1001:=Fr;have a2:w1.ownsRow (w.heap.size+1+1) 31 2 v' O.length (Bp O):=a1;rw[hO]at d1;have f4:=d1;clear C a5 b0 a9 a6 a1 hO d0;have b5:=L.size;go_wp2
 go_loopw [3] (fun v wr=>∃q:Nat,q<=f-O.length/\wr.ownsRow (w.heap.size+1+1) 31 2 v (O.length+q) (Bp (O++List.replicate q ((0:Int),(0:Int))))/\Bl w wr/\wr.heap[w.heap.size]?=some (O18 p nm I J K r1 r2 (f:Int) st ca cn cc ha hl hc ma ml mc)/\wr.heap[w.heap.size+1]?=some (O23 none 0 0 none 0 0))
  (fun v _=>f-lenOf v)
 case atStart=>exact⟨0,Ck,by simpa using a2,L,C1,D1⟩
 case round=>
  clear a2 L C1 D1 b5;obtain⟨q,hq,h,z,t,l⟩:=hrel;have N:=z.size;have lC:=Sp t;have lD:=Sp l;obtain⟨Q,V,rfl⟩:=Bh h;have x5:=Bb t 5;simp at x5;by_cases d3:O.length+q<f
  ·have kb:((O.length+q:Nat):Int)<(f:Int):=Ck;have HD:Hid (O++List.replicate (q+1) ((0:Int),(0:Int))=O++List.replicate q ((0:Int),(0:Int))++[((0:Int),(0:Int))]):=by unfold Hid;rw[Bue,Bsi]
   go_wp2_with fail;refine Qm (Vr _) ?_;intro wt A;replace h:=Dc h (Kp.of_below (e:=none) A) Fm;replace z:=z.trans (A.mono N);replace t:=stay A t;replace l:=stay A l;replace N:=z.size;replace lC:=Sp t;replace lD:=Sp l;clear A x5;go_wp2_with (at_builtin;refine Br3 _ rfl _ _ 105 rfl (w.heap.size+1+1) 31 i0 _ 2 16 Bsk hi b2 b3 b4 rfl Fm _ _ _ rfl (h.alloc _) ⟨wt.heap.size,0,none⟩ 1 1 [.i 0,.i 0] rfl rfl ?c1 ?c2 ?c3 ?c4 ?c5 ?_)
   case c1=>exact Dh _ _ _ _ rfl
   case c2=>intro u G;simp at G;subst G;rfl
   case c3=>unfold maxLen;omega
   case c4=>omega
   case c5=>simp;omega
   intro v2 w2 Y F _;have b6:=(z.alloc N (O7 0 0)).grown F Fr (fun j D=>by have:=(h.lt j D).1;omega);have C2:=(F.block _ (Sp (Bg t (O7 0 0))) (fun B=>by have:=(h.lt _ B.symm).1;omega)).trans (Bg t (O7 0 0));have D2:=(F.block _ (Sp (Bg l (O7 0 0))) (fun B=>by have:=(h.lt _ B.symm).1;omega)).trans (Bg l (O7 0 0));obtain⟨b7,b8,rfl⟩:=Bh Y;have Z:w2.ownsRow (w.heap.size+1+1) 31 2 (.s b7 (O.length+q+1) b8) (O.length+(q+1)) (Bp (O++List.replicate (q+1) ((0:Int),(0:Int)))):=by rw[Ba HD,Ib];exact Y
   clear F h Y z t l;go_wp2;go_roundw
   case rel=>exact⟨q+1,Ck,Z,b6,C2,D2⟩
   case measure=>simp[lenOf];omega
  have kb:¬((O.length+q:Nat):Int)<(f:Int):=Ck;have eq:f-O.length=q:=Ck;obtain⟨z0,z1⟩:=cl2 l;obtain⟨q0,q1⟩:=fr2 l;simp at z0 z1;have b9:=(Kp.set_lo (e:=none) (b:=w.heap.size+1+1) (i:=0) (g:=w.heap.size+1) (w:=wr) Ck (.s Q (O.length+q) V)).trans (Kp.set_lo (i:=1) (g:=w.heap.size+1) Ck (.s none 0 0));have Z:=Dc h b9 Fm;have a3:=Bc eq;clear eq;go_wp2_with fail;refine tb (.agg #[.s Q (O.length+q) V,.s none 0 0]) (by simp[results,results110,go_sem,z0,z1]) ?_;refine⟨⟨Q,O.length+q,V,none,0,0⟩,rfl,⟨?_,TyR.nil _,?_,Bsb _⟩,(z.setCell Hd _).setCell Hd _⟩
  ·rw[Ba a3];exact Gw Z Hd
  rw[Ba a3];simp;omega
def PBd.pval(b:PBd):Value:=.agg #[.slice (some ⟨b.tg,0,none⟩) b.T.length b.tc,.slice b.ya b.yn b.yc,.int .i64 b.cl,.int .i64 b.nm,.slice b.pa b.pl b.pc,.int .i64 b.r1,.int .i64 b.r2,.int .i64 b.lo,.int .i64 b.st,.slice b.ca b.cn b.cc,.slice b.ha b.hl b.hc,.slice b.ma b.ml b.mc,.slice b.la b.L.length b.lc,
 .slice b.fa1 b.fl1 b.fc1,.slice b.fa2 b.fl2 b.fc2,.slice (some ⟨b.tg,0,none⟩) b.T.length b.tc,.slice b.ya b.yn b.yc,.int .i64 b.cl,.int .i64 b.nm,.slice b.pa b.pl b.pc,.int .i64 b.r1,.int .i64 b.r2,.int .i64 b.lo,.int .i64 b.st,.slice b.ca b.cn b.cc,.slice b.ha b.hl b.hc,.slice b.ma b.ml b.mc,.slice b.la b.L.length b.lc]
def Tryz.infoPass:(prog.info? 212).map (·.size)=some 28:=Lt
def Ob (b:PBd)(mp:Int->Option Bf)(w:TW):Prop:=∀q w',Below w.heap.size w w'->Calls Tryz.prog 185 #[b.pval,.int .i64 q] w' fun e w''=>∃u:FrV,e=.returned (.tuple #[u.val,.bool (mp q).isSome])/\u.is (Cu (mp q)) w''/\Below w'.heap.size w' w''
def Ob.below{b:PBd}{mp:Int->Option Bf}{w s:TW}(h:Ob b mp w)(c:Bl w s):Ob b mp s:=fun q e f=>h q e (c.trans (f.mono c.size))
def Bg7(b:PBd)(c:List (Rd.Mp×Value×Value))(bb:Nat)(p:Int)(w:TW)(a6:b.ml=c.length)(c8:c.length<=1000)(a7:∀q∈c,q.1.locals.length<=5000/\q.1.stack.length<=5000)(hh:Mf w bb (.s b.ma b.ml b.mc) c):Calls prog 185 #[b.pval,.i p] w fun e F=>∃v:FrV,e=.r (.tuple #[v.val,.bool (Gc p (c.map Prod.fst)).isSome])/\v.is (Cu (Gc p (c.map Prod.fst))) F/\Bl w F:=by
 generalize f:Gc p (c.map Prod.fst)=r;have D:Hid (Gc p ((c.map Prod.fst).drop 0)=r):=f;obtain⟨a8,a9,b0,b1,b2,b3,O,Q,ya,yn,yc,V,Y,Z,pl,pc,r1,r2,lo,st,ca,cn,cc,ha,hl,hc,I,ml,J,la,lc,T,L⟩:=b;simp only at a6 hh;subst a6;simp only[PBd.pval];have c1:Hid (∀F,Bl w F->Mf F bb (.s I c.length J) c):=fun F h=>hh.kp (Kp.of_below (e:=none) h) Fm Fm;have c2:=Bc a7;clear f hh a7;have b4:=Bu w ((O25 (.p O) T.length Q ya yn yc V Y Z pl pc r1 r2 lo st ca cn cc ha hl hc I c.length J la L.length lc a8 a9 b0 b1 b2 b3 (.p O) T.length Q ya yn yc V Y Z pl pc r1 r2 lo st ca cn cc ha hl hc I c.length J la L.length lc)) (O23 none 0 0 none 0 0);have R0:=Bx w ((O25 (.p O) T.length Q ya yn yc V Y Z pl pc r1 r2 lo st ca cn cc ha hl hc I c.length J la L.length lc a8 a9 b0 b1 b2 b3 (.p O) T.length Q ya yn yc V Y Z pl pc r1 r2 lo st ca cn cc ha hl hc I c.length J la L.length lc)) (O23 none 0 0 none 0 0);go_in;go_wp2
 go_loopw [12] (fun v wr=>∃k:Nat,k<=c.length/\v=.i (k:Int)/\Hid (Gc p ((c.map Prod.fst).drop k)=r)/\Bl w wr/\wr.heap[w.heap.size+1]?=some (O23 none 0 0 none 0 0))
  (fun v _=>c.length-(intOf v).toNat)
 case atStart=>exact⟨0,Ck,rfl,D,b4,R0⟩
 case round=>
  clear D b4 R0;obtain⟨k,hk,rfl,D,hB,CR⟩:=hrel;have c3:=hB.size;have lR:=Sp CR;by_cases j:k<c.length
  ·have b5:=Ba c1 _ hB;obtain⟨g,hg,c9,_,a0⟩:=Cf b5.1 Ck;have y0:=(a0 _ (Eh c k j 0 Ck).2).trans (Eh c k j 0 Ck).1;have y1:=(a0 _ (Eh c k j 1 Ck).2).trans (Eh c k j 1 Ck).1;have y2:=(a0 _ (Eh c k j 2 Ck).2).trans (Eh c k j 2 Ck).1;obtain⟨a3,a4⟩:=b5.2 _ (Brn j);obtain⟨b6,b7⟩:=Ba c2 _ (Brn j);have hd:(c.map Prod.fst).drop k=c[k].1::(c.map Prod.fst).drop (k+1):=by rw[Brj (by simpa using j)];simp
   have f:=Ba D;rw[hd,Gc]at f;generalize c[k]=x at *;obtain⟨⟨l,m,t⟩,v1,v2⟩:=x;simp only at y0 y1 y2 a3 a4 b6 b7 f;obtain⟨z,A,rfl⟩:=Bh a3;obtain⟨B,C,rfl⟩:=Bh a4;simp at y0 y1 y2;subst hg;have kb:(k:Int)<(c.length:Int):=Ck;have b8:=hB.alloc c3 (O17 l z m.length A B t.length C);have b9:=Bg CR (O17 l z m.length A B t.length C);clear a0 hd D;by_cases G:l=p
   ·rw[Th G]at f;have c4:(l==p)=true:=by simp[G]
    have HE:=Bc f;have a5:=Bhi l ⟨z,m.length,A,B,t.length,C⟩ (wr.alloc (O17 l z m.length A B t.length C));simp only[FrV.val]at a5;have c5:=Bc a5;clear f G a5;go_wp2_with fail;refine Qm (Ba c5) ?_;intro w1 a1;have a2:=stay a1 b9;obtain⟨K,N⟩:=cl2 a2;obtain⟨q0,q1⟩:=fr2 a2;have lr:=Sp a2;simp at K N;have c0:=QB b8 a1;have d0:=c0.size;have c6:=(TyR.of_tys a3).below ((QN (O17 l z m.length A B t.length C)).trans (a1.mono Hd));have c7:=(TyR.of_tys a4).below ((QN (O17 l z m.length A B t.length C)).trans (a1.mono Hd));go_wp2_with fail;obtain rfl:=Ba HE;refine tb (.tuple #[.agg #[.s z m.length A,.s B t.length C],.bool true]) (by simp[results,results185,go_sem,K,N]) ?_;exact⟨⟨z,m.length,A,B,t.length,C⟩,rfl,FrV.is.set2 ⟨c6,c7,b6,b7⟩ a2 _ _,(c0.setCell Hd _).setCell Hd _⟩
   rw[Pk G]at f;have c4:(l==p)=false:=by simp[G]
   have HG:Hid (Gc p ((c.map Prod.fst).drop (k+1))=r):=f;clear f G;go_wp2;go_roundw
   case rel=>exact⟨k+1,Ck,Mg,HG,b8,b9⟩
   case measure=>simp[intOf];omega
  have HE:Hid (none=r):=by unfold Hid;rw[<- Ba D,Brq Fr,Gc]
  have kb:¬(k:Int)<(c.length:Int):=Ck;obtain⟨K,N⟩:=cl2 CR;obtain⟨q0,q1⟩:=fr2 CR;simp at K N;clear D;go_wp2_with fail;obtain rfl:=Ba HE;refine tb (.tuple #[.agg #[.s none 0 0,.s none 0 0],.bool false]) (by simp[results,results185,go_sem,K,N]) ?_;exact⟨⟨none,0,0,none,0,0⟩,rfl,⟨TyR.nil _,TyR.nil _,by simp[Cu],by simp[Cu]⟩,(hB.setCell Hd _).setCell Hd _⟩
def Ic (T:TI)(mp:Int->Option Bf)(x:Bf)(q:Int):Bool:=!(mp q).isSome || Km T x (Cu (mp q))
def Jj (T:TI)(mp:Int->Option Bf)(x:Bf)(q:Int):Int:=if (mp q).isSome=false then 8 else if Ic T mp x q=false then 9 else 0
def P4 (T:TI)(mp:Int->Option Bf)(len:Int)(x:Bf)(q:Int):Int:=if len<=q then 11 else if Ic T mp x q=false then 9 else 0
def Um(b:PBd)(mp:Int->Option Bf)(v:FrV)(x:Bf)(q:Int)(w:TW)(hl:b.T.length<=1000)(hT:Dy w b.tg b.T)(hM:Ob b mp w)(hv:v.is x w):Calls prog 184 #[b.pval,v.val,.i q] w fun e f=>e=.r (.bool (Ic b.T mp x q))/\Bl w f:=by
 have a2:=fun f h=>hM q f h;have a3:=fun (u:FrV) y f (h:Bl w f) hu=>Bjq (ya:=b.ya) (yn:=b.yn) (yc:=b.yc) b.T b.tg b.tc v u x y f hl (hT.below h) (hv.below h) hu;unfold Ic;generalize mp q=M at *;obtain⟨a4,a5,a6,a7,a8,a9,g,j,ya,yn,yc,l,m,s,t,A,B,C,D,F,G,cn,I,J,K,N,O,Q,V,Y,Z,T,L⟩:=b;obtain⟨xa,xn,xc,za,zn,zc⟩:=v;simp only[PBd.pval,FrV.val]at a2 a3 ⊢;have HM:=Bc a2;have b1:=Bc a3;clear a2 a3 hM hT hv;have a1:=Bu w ((O25 (.p g) T.length j ya yn yc l m s t A B C D F G cn I J K N O Q V Y L.length Z a4 a5 a6 a7 a8 a9 (.p g) T.length j ya yn yc l m s t A B C D F G cn I J K N O Q V Y L.length Z)) (O23 xa xn xc za zn zc);have P0:=Cb w ((O25 (.p g) T.length j ya yn yc l m s t A B C D F G cn I J K N O Q V Y L.length Z a4 a5 a6 a7 a8 a9 (.p g) T.length j ya yn yc l m s t A B C D F G cn I J K N O Q V Y L.length Z)) (O23 xa xn xc za zn zc);have X0:=Bx w ((O25 (.p g) T.length j ya yn yc l m s t A B C D F G cn I J K N O Q V Y L.length Z a4 a5 a6 a7 a8 a9 (.p g) T.length j ya yn yc l m s t A B C D F G cn I J K N O Q V Y L.length Z)) (O23 xa xn xc za zn zc);cases M with
 | none =>
  go_in;go_wp2_with (refine Bsj Ls 212 (.tmp 3) Ls w.heap.size Ls 212 _ (0,0) _ P0 Br9 Ls Tryz.infoPass ?_)
  refine(Ba HM _ a1).mono ?_;rintro e w1 ⟨u,rfl,hu,c⟩;obtain⟨ua,un,uc,va,vn,vc⟩:=u;have a0:=QB a1 c;go_wp2;go_ret;exact⟨rfl,a0.alloc a0.size _⟩
 | some z =>
  go_in;go_wp2_with (refine Bsj Ls 212 (.tmp 3) Ls w.heap.size Ls 212 _ (0,0) _ P0 Br9 Ls Tryz.infoPass ?_)
  refine(Ba HM _ a1).mono ?_;rintro e w1 ⟨u,rfl,hu,c⟩;obtain⟨ua,un,uc,va,vn,vc⟩:=u;have a0:=QB a1 c;have b2:=a0.size;have b0:=a0.alloc b2 (O23 ua un uc va vn vc);have hf:=Ba b1 ⟨ua,un,uc,va,vn,vc⟩ _ _ b0 (hu.below (QN (O23 ua un uc va vn vc)));simp only at hf;have HF:=Bc hf;have p0:=Bb (stay c P0) 0;have p1:=Bb (stay c P0) 1;have x0:=Bb (stay c X0) 0;have x1:=Bb (stay c X0) 1;have lP:=Sp (stay c P0);have lX:=Sp (stay c X0);simp at p0 p1 x0 x1;clear hf c P0 X0;go_wp2_with fail;refine Qm (Ba HF) ?_;intro w2 b3;go_wp2;go_ret;exact⟨Hd,QB b0 b3⟩
def Bds(b:PBd)(mp:Int->Option Bf)(v:FrV)(x:Bf)(q:Int)(w:TW)(hl:b.T.length<=1000)(hT:Dy w b.tg b.T)(hM:Ob b mp w)(hv:v.is x w):Calls prog 235 #[b.pval,v.val,.i q] w fun e f=>e=.r (.i (Jj b.T mp x q))/\Bl w f:=by
 have a2:=fun f h=>hM q f h;have a3:=fun f (h:Bl w f)=>Um b mp v x q f hl (hT.below h) (hM.below h) (hv.below h);unfold Jj;generalize Ic b.T mp x q=FA at *;generalize mp q=M at *;obtain⟨a4,a5,a6,a7,a8,a9,g,j,ya,yn,yc,l,m,s,t,A,B,C,D,F,G,cn,I,J,K,N,O,Q,V,Y,Z,T,L⟩:=b;obtain⟨xa,xn,xc,za,zn,zc⟩:=v;simp only[PBd.pval,FrV.val]at a2 a3 ⊢;have HM:=Bc a2;have b1:=Bc a3;clear a2 a3 hM hT hv;have a1:=Bu w ((O25 (.p g) T.length j ya yn yc l m s t A B C D F G cn I J K N O Q V Y L.length Z a4 a5 a6 a7 a8 a9 (.p g) T.length j ya yn yc l m s t A B C D F G cn I J K N O Q V Y L.length Z)) (O23 xa xn xc za zn zc);have P0:=Cb w ((O25 (.p g) T.length j ya yn yc l m s t A B C D F G cn I J K N O Q V Y L.length Z a4 a5 a6 a7 a8 a9 (.p g) T.length j ya yn yc l m s t A B C D F G cn I J K N O Q V Y L.length Z)) (O23 xa xn xc za zn zc);have X0:=Bx w ((O25 (.p g) T.length j ya yn yc l m s t A B C D F G cn I J K N O Q V Y L.length Z a4 a5 a6 a7 a8 a9 (.p g) T.length j ya yn yc l m s t A B C D F G cn I J K N O Q V Y L.length Z)) (O23 xa xn xc za zn zc);cases M with
 | none =>
  go_in;go_wp2_with (refine Bsj Ls 212 (.tmp 3) Ls w.heap.size Ls 212 _ (0,0) _ P0 Br9 Ls Tryz.infoPass ?_)
  refine(Ba HM _ a1).mono ?_;rintro e w1 ⟨u,rfl,hu,c⟩;obtain⟨ua,un,uc,va,vn,vc⟩:=u;have a0:=QB a1 c;go_wp2;go_ret;exact⟨rfl,a0.alloc a0.size _⟩
 | some z =>
  rw[Pk Hd];cases FA
  all_goals
   go_in;go_wp2_with (refine Bsj Ls 212 (.tmp 3) Ls w.heap.size Ls 212 _ (0,0) _ P0 Br9 Ls Tryz.infoPass ?_)
   refine(Ba HM _ a1).mono ?_;rintro e w1 ⟨u,rfl,hu,c⟩;obtain⟨ua,un,uc,va,vn,vc⟩:=u;have a0:=QB a1 c;have b2:=a0.size;have b0:=a0.alloc b2 (O23 ua un uc va vn vc);have P1:=stay c P0;have x0:=Bb (stay c X0) 0;have x1:=Bb (stay c X0) 1;have lP:=Sp P1;have lX:=Sp (stay c X0);simp at x0 x1;have P2:=Bg P1 (O23 ua un uc va vn vc);clear c P0 X0;go_wp2_with (refine Bsj Ls 212 (.tmp 3) Ls w.heap.size Ls 212 _ (0,0) _ P2 Br9 Ls Tryz.infoPass ?_)
   refine Qm (Ba b1 _ b0) ?_;intro w2 b3;go_wp2;go_ret;exact⟨rfl,QB b0 b3⟩
def Bnb(b:PBd)(mp:Int->Option Bf)(v:FrV)(x:Bf)(q:Int)(w:TW)(hl:b.T.length<=1000)(hT:Dy w b.tg b.T)(hM:Ob b mp w)(hv:v.is x w):Calls prog 236 #[b.pval,v.val,.i q] w fun e c=>e=.r (.i (P4 b.T mp (b.cn:Int) x q))/\Bl w c:=by
 have Y:=fun c (h:Bl w c)=>Um b mp v x q c hl (hT.below h) (hM.below h) (hv.below h);unfold P4;generalize Ic b.T mp x q=FA at *;obtain⟨a0,a1,a2,a3,a4,a5,f,g,ya,yn,yc,j,l,m,s,t,z,A,B,C,D,cn,F,G,I,J,K,N,O,Q,V,T,L⟩:=b;obtain⟨xa,xn,xc,za,zn,zc⟩:=v;simp only[PBd.pval,FrV.val]at Y ⊢;have a6:=Bc Y;clear Y hM hT hv;have Z:=Bu w ((O25 (.p f) T.length g ya yn yc j l m s t z A B C D cn F G I J K N O Q L.length V a0 a1 a2 a3 a4 a5 (.p f) T.length g ya yn yc j l m s t z A B C D cn F G I J K N O Q L.length V)) (O23 xa xn xc za zn zc);have P0:=Cb w ((O25 (.p f) T.length g ya yn yc j l m s t z A B C D cn F G I J K N O Q L.length V a0 a1 a2 a3 a4 a5 (.p f) T.length g ya yn yc j l m s t z A B C D cn F G I J K N O Q L.length V)) (O23 xa xn xc za zn zc);by_cases hq:(cn:Int)<=q;·rw[Th hq];go_in;go_wp2;go_ret;exact⟨rfl,Z⟩
 rw[Pk hq];have a8:q<(cn:Int):=Ck
 cases FA
 all_goals
  go_in;go_wp2_with (refine Bsj Ls 212 (.tmp 3) Ls w.heap.size Ls 212 _ (0,0) _ P0 Br9 Ls Tryz.infoPass ?_)
  refine Qm (Ba a6 _ Z) ?_;intro w2 a7;go_wp2;go_ret;exact⟨rfl,QB Z a7⟩
def Gj (T:TI)(mp:Int->Option Bf)(p:Int)(lo:TP):List Rd.Hnd->Int
 | []=>0
 | h::r=>if Fo h p=false then Gj T mp p lo r else if Jj T mp ⟨lo,[(3,h.cl)]⟩ h.target≠0 then Jj T mp ⟨lo,[(3,h.cl)]⟩ h.target else Gj T mp p lo r
def Bg9(b:PBd)(mp:Int->Option Bf)(f:List Rd.Hnd)(bb:Nat)(p:Int)(v:FrV)(x:Bf)(w:TW)(hl:b.T.length<=1000)(hT:Dy w b.tg b.T)(hM:Ob b mp w)(c3:b.hl=f.length)(d7:f.length<=1000)(c4:K8 w bb (.s b.ha b.hl b.hc) f)(hv:v.is x w):Calls prog 234 #[b.pval,.i p,v.val] w fun e l=>e=.r (.i (Gj b.T mp p x.locals f))/\Bl w l:=by
 have hJ:=fun u y q l (h:Bl w l) hu=>Bds b mp u y q l hl (hT.below h) (hM.below h) hu;have hC:=fun c l (h:Bl w l)=>Bh4 c v x l (hv.below h);have a5:Hid (∀l,Bl w l->K8 l bb (.s b.ha b.hl b.hc) f):=fun l h=>c4.kp (Kp.of_below (e:=none) h) Fm;generalize j:Gj b.T mp p x.locals f=R;have A:Hid (Gj b.T mp p x.locals (f.drop 0)=R):=j;obtain⟨a6,a7,a8,a9,b0,b1,B,C,ya,yn,yc,D,F,G,I,J,K,N,O,Q,V,cn,Y,Z,d8,hc,ma,ml,mc,la,lc,T,L⟩:=b;obtain⟨xa,xn,xc,za,zn,zc⟩:=v;simp only at c3 A;subst c3;unfold Hid at a5;simp only[PBd.pval,FrV.val]at hJ hC a5 ⊢;have d3:=Bc a5;have HJ:=Bc hJ;have HC:=Bc hC;clear j hT hM hv c4 hJ hC a5 hl;have c5:=Bu w (O25 (.p B) T.length C ya yn yc D F G I J K N O Q V cn Y Z f.length hc ma ml mc la L.length lc a6 a7 a8 a9 b0 b1 (.p B) T.length C ya yn yc D F G I J K N O Q V cn Y Z f.length hc ma ml mc la L.length lc) (O23 xa xn xc za zn zc);have P0:=Cb w (O25 (.p B) T.length C ya yn yc D F G I J K N O Q V cn Y Z f.length hc ma ml mc la L.length lc a6 a7 a8 a9 b0 b1 (.p B) T.length C ya yn yc D F G I J K N O Q V cn Y Z f.length hc ma ml mc la L.length lc) (O23 xa xn xc za zn zc);have X0:=Bx w (O25 (.p B) T.length C ya yn yc D F G I J K N O Q V cn Y Z f.length hc ma ml mc la L.length lc a6 a7 a8 a9 b0 b1 (.p B) T.length C ya yn yc D F G I J K N O Q V cn Y Z f.length hc ma ml mc la L.length lc) (O23 xa xn xc za zn zc);go_in;go_wp2
 go_loopw [15] (fun s wr=>∃q:Nat,q<=f.length/\s=.i (q:Int)/\Hid (Gj T mp p x.locals (f.drop q)=R)/\Bl w wr/\wr.heap[w.heap.size]?=some (O25 (.p B) T.length C ya yn yc D F G I J K N O Q V cn Y Z f.length hc ma ml mc la L.length lc a6 a7 a8 a9 b0 b1 (.p B) T.length C ya yn yc D F G I J K N O Q V cn Y Z f.length hc ma ml mc la L.length lc)/\wr.heap[w.heap.size+1]?=some (O23 xa xn xc za zn zc))
  (fun s _=>f.length-(intOf s).toNat)
 case atStart=>exact⟨0,Ck,rfl,A,c5,P0,X0⟩
 case round=>
  clear A c5 P0 X0;obtain⟨q,hq,rfl,A,hB,CP,CX⟩:=hrel;have c6:=hB.size;by_cases m:q<f.length
  ·obtain⟨g,hg,d9,_,a1⟩:=Cf (Ba d3 _ hB) Ck;have y0:=(a1 _ (Db f q m 0 Ck).2).trans (Db f q m 0 Ck).1;have y1:=(a1 _ (Db f q m 1 Ck).2).trans (Db f q m 1 Ck).1;have y2:=(a1 _ (Db f q m 2 Ck).2).trans (Db f q m 2 Ck).1;have y3:=(a1 _ (Db f q m 3 Ck).2).trans (Db f q m 3 Ck).1;have hd:f.drop q=f[q]::f.drop (q+1):=Brj m;have j:=Ba A;rw[hd,Gj]at j;generalize f[q]=hh at *;obtain⟨h1,h2,t,z⟩:=hh;simp at y0 y1 y2 y3;simp only at j;subst hg;have kb:(q:Int)<(f.length:Int):=Ck;have b2:=hB.alloc c6 (O19 h1 h2 t z);have b3:=Bg CP (O19 h1 h2 t z);have b4:=Bg CX (O19 h1 h2 t z);have c7:=Be wr (O19 h1 h2 t z);have b5:=Af ⟨h1,h2,t,z⟩ p (wr.alloc (O19 h1 h2 t z));simp only at b5;generalize Fo ⟨h1,h2,t,z⟩ p=CV at *;have c8:=Bc b5;clear b5 hd a1 A;cases CV with
   | false =>
    rw[Th rfl]at j;have HG:Hid (Gj T mp p x.locals (f.drop (q+1))=R):=j;clear j;go_wp2_with fail;refine Qb (Ba c8) b2 ?_;intro w1 a0 a2;go_wp2;go_roundw
    case rel=>exact⟨q+1,Ck,Mg,HG,a2,stay a0 b3,stay a0 b4⟩
    case measure=>simp[intOf];omega
   | true =>
    rw[Pk Hd]at j;have c9:=Bc j;clear j;go_wp2_with fail;refine Qb (Ba c8) b2 ?_;intro w1 a0 a2;have d0:=stay a0 b3;have b6:=stay a0 b4;have b7:=stay a0 c7;clear a0 b3 b4 c7 CP CX b2 hB c6;obtain⟨x0,x1⟩:=cl2 b6;have z3:=Bb b7 3;simp at x0 x1 z3;go_wp2_with fail;refine(Ba HC z _ a2).mono ?_;rintro e w2 ⟨u,rfl,hu,a3⟩;obtain⟨ua,un,uc,va,vn,vc⟩:=u;have d1:=QB a2 a3;have d4:=d1.size;have b8:=Bg (stay a3 d0) (O23 ua un uc va vn vc);have d5:=Bg (stay a3 b6) (O23 ua un uc va vn vc);have b9:=stay a3 b7;have c0:=d1.alloc d4 (O23 ua un uc va vn vc);have d6:=hu.below (QN (O23 ua un uc va vn vc));have hj:=Ba HJ ⟨ua,un,uc,va,vn,vc⟩ _ t _ c0 d6;simp only at hj;have j:=Ba c9;generalize Jj T mp ⟨x.locals,[(3,z)]⟩ t=JV at *;have d2:=Bc hj;have z2:=Bb b9 2;have lH:=Sp b9;simp at z2;clear a3 d0 b6 b7 b9 x0 x1 z3 hu hj c9 a2;by_cases a4:JV=0
    ·rw[Pk (by simpa using a4)]at j;have HG:Hid (Gj T mp p x.locals (f.drop (q+1))=R):=j;subst a4;clear j;go_wp2_with (refine Bsj Ls 212 (.tmp 3) Ls w.heap.size Ls 212 _ (0,0) _ b8 Br9 Ls Tryz.infoPass ?_)
     refine Qb (Ba d2) c0 ?_;intro w3 c1 c2;go_wp2;go_roundw
     case rel=>exact⟨q+1,Ck,Mg,HG,c2,stay c1 b8,stay c1 d5⟩
     case measure=>simp[intOf];omega
    rw[Th a4]at j;have HE:=Bc j;have f0:(JV != 0)=true:=by simpa using a4
    clear j a4;go_wp2_with (refine Bsj Ls 212 (.tmp 3) Ls w.heap.size Ls 212 _ (0,0) _ b8 Br9 Ls Tryz.infoPass ?_)
    refine Qb (Ba d2) c0 ?_;intro w3 c1 c2;go_wp2;go_ret;exact⟨by rw[<- Ba HE];rfl,c2⟩
  have HE:Hid ((0:Int)=R):=by unfold Hid;rw[<- Ba A,Brq Ck];rfl
  have kb:¬(q:Int)<(f.length:Int):=Ck;clear A;go_wp2;go_ret;exact⟨by rw[<- Ba HE];rfl,hB⟩
def Pz (T:TI)(mp:Int->Option Bf)(H:Int)(B:Option Bf)(op n nxt len:Int):Int :=
 if H≠0 then H else if B.isSome=false then 10 else if Ei op=true/\Jj T mp (Cu B) n≠0 then Jj T mp (Cu B) n
 else if Dl op=false then 0 else P4 T mp len (Cu B) nxt
def Bjn(b:PBd)(mp:Int->Option Bf)(p:Nat)(op n H:Int)(RB:Option Bf)(v:FrV)(w:TW)(hl:b.T.length<=1000)(hT:Dy w b.tg b.T)(hM:Ob b mp w)(hp:p<=100000) (hH:∀c,Bl w c->Calls prog 234 #[b.pval,.i (p:Int),v.val] c fun e c7=>e=.r (.i H)/\Bl c c7) (d3:∀c,Bl w c->Calls prog 221 #[b.val,.agg #[.i (p:Int),.i op,.i n],v.val] c fun e c7=>∃u:FrV,e=.r (.tuple #[u.val,.bool RB.isSome])/\(∀y,RB=some y->u.is y c7)/\Bl c c7):Calls prog 186 #[b.pval,.agg #[.i (p:Int),.i op,.i n],v.val] w fun e c=>∃u:FrV, e=.r (.tuple #[u.val,.i (Pz b.T mp H RB op n ((p+Cd.wd op:Nat):Int) (b.cn:Int))])/\(Pz b.T mp H RB op n ((p+Cd.wd op:Nat):Int) (b.cn:Int)=0->∀y,RB=some y->u.is y c)/\Bl w c:=by
 have hJ:=fun u y q c (h:Bl w c) Q=>Bds b mp u y q c hl (hT.below h) (hM.below h) Q;have d4:=fun u y q c (h:Bl w c) Q=>Bnb b mp u y q c hl (hT.below h) (hM.below h) Q;have g1:=fun c=>W1 p op n c hp;have g2:=fun c=>Bfe op c;have g3:=fun c=>Z9 op c;generalize D:Pz b.T mp H RB op n ((p+Cd.wd op:Nat):Int) (b.cn:Int)=A;unfold Pz at D;generalize p+Cd.wd op=d5 at *;obtain⟨d6,d7,d8,d9,f0,f1,tg,tc,ya,yn,yc,cl,nm,pa,pl,pc,r1,r2,lo,st,ca,cn,cc,ha,a2,hc,ma,ml,mc,la,lc,T,L⟩:=b;obtain⟨xa,xn,xc,za,zn,zc⟩:=v;simp only[PBd.pval,PBd.val,FrV.val]at hJ d4 hH d3 D ⊢;generalize Ei op=J at *;generalize Dl op=G at *;have HH:=Bc hH;have f2:=Bc d3;have HJ:=Bc hJ;have g4:=Bc d4;have g5:=Bc g1;have g6:=Bc g2;have f3:=Bc g3;clear hH d3 hJ d4 g1 g2 g3 hT hM hl;have a0:=U9 w (O25 (.p tg) T.length tc ya yn yc cl nm pa pl pc r1 r2 lo st ca cn cc ha a2 hc ma ml mc la L.length lc d6 d7 d8 d9 f0 f1 (.p tg) T.length tc ya yn yc cl nm pa pl pc r1 r2 lo st ca cn cc ha a2 hc ma ml mc la L.length lc) (O15 (p:Int) op n) (O23 xa xn xc za zn zc) (O23 none 0 0 none 0 0);obtain⟨P0,I0,X0,R0⟩:=Ai w (O25 (.p tg) T.length tc ya yn yc cl nm pa pl pc r1 r2 lo st ca cn cc ha a2 hc ma ml mc la L.length lc d6 d7 d8 d9 f0 f1 (.p tg) T.length tc ya yn yc cl nm pa pl pc r1 r2 lo st ca cn cc ha a2 hc ma ml mc la L.length lc) (O15 (p:Int) op n) (O23 xa xn xc za zn zc) (O23 none 0 0 none 0 0);have f4:=a0.size;by_cases h0:H=0
 ·subst h0;rw[Pk Hd]at D;cases RB with
  | none =>
   rw[Th Hd]at D;have N:=Bc D;clear D;go_in;go_wp2_with (refine Bsj Ls 212 (.tmp 3) Ls w.heap.size Ls 212 _ (0,0) _ P0 Br9 Ls Tryz.infoPass ?_)
   refine Qm (Ba HH _ a0) ?_;intro w1 j;have K:=a0.trans (j.mono f4);have c8:=K.size;have P1:=stay j P0;have I1:=stay j I0;have X1:=stay j X0;have R1:=stay j R0;clear j P0 I0 X0 R0;obtain⟨m0,m1,m2,m3,m4,m5,m6,m7,m8,m9,a7,a8,a9,b0,b1,b2,b3,b4,b5,b6,b7,b8,b9,c0,c1,c2,c3,c4⟩:=Bnk P1;simp at m0 m1 m2 m3 m4 m5 m6 m7 m8 m9 a7 a8 a9 b0 b1 b2 b3 b4 b5 b6 b7 b8 b9 c0 c1 c2 c3 c4;obtain⟨V,Y,Z⟩:=cl3 I1;simp at V Y Z;obtain⟨x0,x1⟩:=cl2 X1;simp at x0 x1;go_wp2_with fail;refine(Ba f2 _ K).mono ?_;rintro e w2 ⟨u,rfl,-,F⟩;obtain⟨l,m,t,z,B,vc⟩:=u;have a3:=K.trans (F.mono c8);have f5:=a3.size;have I:=stay F R1;obtain⟨f,g⟩:=cl2 I;obtain⟨q0,q1⟩:=fr2 I;have lr:=Sp I;simp at f g;clear m0 m1 m2 m3 m4 m5 m6 m7 m8 m9 a7 a8 a9 b0 b1 b2 b3 b4 b5 b6 b7 b8 b9 c0 c1 c2 c3 c4 V Y Z x0 x1 F;have h2:=Ba N;subst h2;go_wp2_with fail;refine tb (.tuple #[.agg #[.s none 0 0,.s none 0 0],.i 10]) (by simp[results,Bul,go_sem,f,g,lr]) ?_;exact⟨⟨none,0,0,none,0,0⟩,rfl,fun h=>(by simp at h),by repeat (first|refine Bry ?_ Fr _|refine Bs4 ?_ (by first|omega|(simp;omega)) _|exact a3)⟩
  | some y =>
   rw[Pk Hd,show Cu (some y)=y from rfl]at D;have N:=Bc D;clear D;go_in;go_wp2_with (refine Bsj Ls 212 (.tmp 3) Ls w.heap.size Ls 212 _ (0,0) _ P0 Br9 Ls Tryz.infoPass ?_)
   refine Qm (Ba HH _ a0) ?_;intro w1 j;have K:=a0.trans (j.mono f4);have c8:=K.size;have P1:=stay j P0;have I1:=stay j I0;have X1:=stay j X0;have R1:=stay j R0;clear j P0 I0 X0 R0;obtain⟨m0,m1,m2,m3,m4,m5,m6,m7,m8,m9,a7,a8,a9,b0,b1,b2,b3,b4,b5,b6,b7,b8,b9,c0,c1,c2,c3,c4⟩:=Bnk P1;simp at m0 m1 m2 m3 m4 m5 m6 m7 m8 m9 a7 a8 a9 b0 b1 b2 b3 b4 b5 b6 b7 b8 b9 c0 c1 c2 c3 c4;obtain⟨V,Y,Z⟩:=cl3 I1;simp at V Y Z;obtain⟨x0,x1⟩:=cl2 X1;simp at x0 x1;go_wp2_with fail;refine(Ba f2 _ K).mono ?_;rintro e w2 ⟨u,rfl,Q,F⟩;have Q:=Q y rfl;obtain⟨l,m,t,z,B,vc⟩:=u;have a3:=K.trans (F.mono c8);have f5:=a3.size;have P2:=Bg (stay F P1) (O23 l m t z B vc);have I2:=Bg (stay F I1) (O23 l m t z B vc);have I:=Bg (stay F R1) (O23 l m t z B vc);have Y2:=Be w2 (O23 l m t z B vc);have a4:=a3.alloc f5 (O23 l m t z B vc);have f6:=a4.size;have c9:=Q.below (QN (O23 l m t z B vc));have c5:=Bb (stay F I1) 1;have lI:=Sp (stay F I1);have lR:=Sp (stay F R1);simp at c5;clear m0 m1 m2 m3 m4 m5 m6 m7 m8 m9 a7 a8 a9 b0 b1 b2 b3 b4 b5 b6 b7 b8 b9 c0 c1 c2 c3 c4 V Y Z x0 x1 F P1 I1 X1 R1 Q;go_wp2_with fail;refine Qm (Ba g6 _) ?_;rintro w3 rfl
   go_upto_if 34 with fail
   go_cut [8] from 12 (fun _ wx=>Bl w wx/\wx.heap[w.heap.size]?=some (O25 (.p tg) T.length tc ya yn yc cl nm pa pl pc r1 r2 lo st ca cn cc ha a2 hc ma ml mc la L.length lc d6 d7 d8 d9 f0 f1 (.p tg) T.length tc ya yn yc cl nm pa pl pc r1 r2 lo st ca cn cc ha a2 hc ma ml mc la L.length lc)/\wx.heap[w.heap.size+1]?=some (O15 (p:Int) op n)/\wx.heap[w.heap.size+1+1+1]?=some (O23 none 0 0 none 0 0)/\wx.heap[w2.heap.size]?=some (O23 l m t z B vc) /\
    FrV.is ⟨l,m,t,z,B,vc⟩ y wx/\Hid ((if G=false then 0 else P4 T mp (cn:Int) y (d5:Int))=A))
   case first=>
    have C:=Ba N;cases J with
    | false =>
     rw[Pk Hd]at C;have f7:=Bc C;clear C N;go_wp2
     go_meet
     case rel=>exact⟨a4,P2,I2,I,Y2,c9,f7⟩
    | true =>
     have hj:=Ba HJ ⟨l,m,t,z,B,vc⟩ y n _ a4 c9;simp only at hj;generalize Jj T mp y n=JV at *;have g7:=Bc hj;clear hj;have h3:=Bb I2 2;simp at h3;by_cases a5:JV=0
     ·rw[Pk (by simp[a5])]at C;have f7:=Bc C;subst a5;clear C N;go_wp2_with (refine Bsj Ls 212 (.tmp 3) Ls w.heap.size Ls 212 _ (0,0) _ P2 Br9 Ls Tryz.infoPass ?_)
      refine Qm (Ba g7) ?_;intro w4 O;have d0:=a4.trans (O.mono f6);go_wp2
      go_meet
      case rel=>exact⟨d0,stay O P2,stay O I2,stay O I,stay O Y2,c9.below O,f7⟩
     rw[Th ⟨rfl,a5⟩]at C;have i3:(JV != 0)=true:=by simpa using a5
     have HE:=Bc C;have f8:A≠0:=by rw[<- C];exact a5
     clear C N a5;go_wp2_with (refine Bsj Ls 212 (.tmp 3) Ls w.heap.size Ls 212 _ (0,0) _ P2 Br9 Ls Tryz.infoPass ?_)
     refine Qm (Ba g7) ?_;intro w4 O;have d0:=a4.trans (O.mono f6);have i4:=d0.size;have R4:=stay O I;obtain⟨f,g⟩:=cl2 R4;obtain⟨q0,q1⟩:=fr2 R4;have lr:=Sp R4;simp at f g;go_wp2_with fail;refine tb (.tuple #[.agg #[.s none 0 0,.s none 0 0],.i JV]) (by simp[results,Bul,go_sem,f,g]) ?_;exact⟨⟨none,0,0,none,0,0⟩,by rw[<- Ba HE],fun h=>absurd h f8,by repeat (first|refine Bry ?_ Fr _|exact d0)⟩
   case rest=>
    obtain⟨f9,P5,I5,R5,Y5,g0,HE⟩:=hcut;have h4:=f9.size;clear N P2 I2 I Y2 c9 a4 f6 g6 HJ HH f2 a3 f5 c5 lI;have lY:=Sp Y5;have C:=Ba HE;have c5:=Bb I5 1;simp at c5;cases G with
    | false =>
     rw[Th rfl]at C;obtain⟨y0,y1⟩:=cl2 Y5;simp at y0 y1;obtain rfl:=C;obtain⟨f,g⟩:=cl2 R5;obtain⟨q0,q1⟩:=fr2 R5;have lr:=Sp R5;simp at f g;clear HE;go_wp2_with fail;refine Qm (Ba f3 _) ?_;rintro w6 rfl;go_wp2_with fail;refine tb (.tuple #[.agg #[.s l m t,.s z B vc],.i 0]) (by simp[results,Bul,go_sem,f,g]) ?_;exact⟨⟨l,m,t,z,B,vc⟩,rfl,g0.set2 R5 _ _,by repeat (first|refine Bry ?_ Fr _|exact f9)⟩
    | true =>
     rw[Pk Hd]at C;obtain⟨V,Y,Z⟩:=cl3 I5;simp at V Y Z;go_wp2_with fail;refine Qm (Ba f3 _) ?_;rintro w6 rfl;go_wp2_with fail;refine Qm (Ba g5 _) ?_;intro w7 a6;have d1:=f9.trans (a6.mono h4);have g8:=d1.size;have P7:=stay a6 P5;have R7:=stay a6 R5;have Y7:=stay a6 Y5;have g9:=g0.below a6;clear a6 P5 I5 R5 Y5 g0 V Y Z HE f3 g5 c5;have hg:=Ba g4 ⟨l,m,t,z,B,vc⟩ y (d5:Int) _ d1 g9;simp only at hg;generalize P4 T mp (cn:Int) y (d5:Int)=GV at *;have h1:=Bc hg;obtain⟨y0,y1⟩:=cl2 Y7;simp at y0 y1;clear hg g4;obtain rfl:=C;by_cases d2:GV=0
     ·subst d2;go_wp2_with (refine Bsj Ls 212 (.tmp 3) Ls w.heap.size Ls 212 _ (0,0) _ P7 Br9 Ls Tryz.infoPass ?_)
      refine Qm (Ba h1) ?_;intro w8 a1;have c6:=d1.trans (a1.mono g8);have h5:=c6.size;have R8:=stay a1 R7;have Y8:=stay a1 Y7;have h6:=g9.below a1;have h7:=Bb Y8 0;have h8:=Bb Y8 1;simp at h7 h8;obtain⟨f,g⟩:=cl2 R8;obtain⟨q0,q1⟩:=fr2 R8;have lr:=Sp R8;simp at f g;go_wp2_with fail;refine tb (.tuple #[.agg #[.s l m t,.s z B vc],.i 0]) (by simp[results,Bul,go_sem,f,g]) ?_;exact⟨⟨l,m,t,z,B,vc⟩,rfl,h6.set2 R8 _ _,by repeat (first|refine Bry ?_ Fr _|exact c6)⟩
     have i5:(GV != 0)=true:=by simpa using d2
     have h9:=Bc d2;clear d2;go_wp2_with (refine Bsj Ls 212 (.tmp 3) Ls w.heap.size Ls 212 _ (0,0) _ P7 Br9 Ls Tryz.infoPass ?_)
     refine Qm (Ba h1) ?_;intro w8 a1;have c6:=d1.trans (a1.mono g8);have h5:=c6.size;have R8:=stay a1 R7;obtain⟨f,g⟩:=cl2 R8;obtain⟨q0,q1⟩:=fr2 R8;have lr:=Sp R8;simp at f g;go_wp2_with fail;refine tb (.tuple #[.agg #[.s none 0 0,.s none 0 0],.i GV]) (by simp[results,Bul,go_sem,f,g]) ?_;exact⟨⟨none,0,0,none,0,0⟩,rfl,fun h=>absurd h (Ba h9),by repeat (first|refine Bry ?_ Fr _|exact c6)⟩
 rw[Th h0]at D;have N:=Bc D;have i6:(H != 0)=true:=by simpa using h0
 have f8:A≠0:=by rw[<- D];exact h0
 clear D h0;go_in;go_wp2_with (refine Bsj Ls 212 (.tmp 3) Ls w.heap.size Ls 212 _ (0,0) _ P0 Br9 Ls Tryz.infoPass ?_)
 refine Qm (Ba HH _ a0) ?_;intro w1 j;have K:=a0.trans (j.mono f4);have c8:=K.size;have I:=stay j R0;obtain⟨f,g⟩:=cl2 I;obtain⟨q0,q1⟩:=fr2 I;have lr:=Sp I;simp at f g;go_wp2_with fail;refine tb (.tuple #[.agg #[.s none 0 0,.s none 0 0],.i H]) (by simp[results,Bul,go_sem,f,g]) ?_;exact⟨⟨none,0,0,none,0,0⟩,by rw[<- Ba N],fun h=>absurd h f8,by repeat (first|refine Bry ?_ Fr _|exact K)⟩
def Ms (mp:Int->Option Bf)(lk:Cd.Ins->Bf->Int)(bh:Cd.Ins->Bf->Option Bf):List Cd.Ins->Option Bf->Int × Int
 | [],_=>(0,0)
 | i::r,o=>match (mp i.place).or o with
  | none=>Ms mp lk bh r none
  | some x=>if lk i x≠0 then (lk i x,i.place) else Ms mp lk bh r (if Dl i.op=true then bh i x else none)
def P8 (T:TI)(mp:Int->Option Bf)(lk:Cd.Ins->Bf->Int)(bh:Cd.Ins->Bf->Option Bf)(L:List Cd.Ins)(x0:Bf):Int × Int :=
 if Ic T mp x0 0=false then (9,0) else Ms mp lk bh L (some x0)
def Bjr(b:PBd)(mp:Int->Option Bf)(lk:Cd.Ins->Bf->Int)(bh:Cd.Ins->Bf->Option Bf)(x0:Bf)(P:Bf->Prop)(bb:Nat)(w:TW)(hl:b.T.length<=1000)(hT:Dy w b.tg b.T)(hM:Ob b mp w)(o5:b.L.length<=100000)(f8:Jz w bb (.s b.la b.L.length b.lc) b.L) (c6:∀f,Bl w f->Calls prog 110 #[.agg #[.i b.cl,.i b.nm,.s b.pa b.pl b.pc,.i b.r1,.i b.r2,.i b.lo,.i b.st,.s b.ca b.cn b.cc,.s b.ha b.hl b.hc,.s b.ma b.ml b.mc]] f fun e b2=>∃u:FrV,e=.returned u.val/\u.is x0 b2/\Bl f b2) (c7:∀i∈b.L,∀(v:FrV) (x:Bf) f,Bl w f->v.is x f->P x->Calls prog 186 #[b.pval,.agg #[.i i.place,.i i.op,.i i.n],v.val] f fun e b2=>∃u:FrV,e=.r (.tuple #[u.val,.i (lk i x)])/\(lk i x=0->∃y,bh i x=some y/\u.is y b2/\P y)/\Bl f b2) (f9:P x0)(g0:∀q z,mp q=some z->P z):Calls prog 129 #[b.pval] w fun e f=>e=.r (.agg #[.i (P8 b.T mp lk bh b.L x0).1,.i 0,.i (P8 b.T mp lk bh b.L x0).2])/\Bl w f:=by
 have c8:=fun v x f (h:Bl w f) hv=>Um b mp v x 0 f hl (hT.below h) (hM.below h) hv;have c9:=fun q f h=>hM q f h;have c0:Hid (∀f,Bl w f->Jz f bb (.s b.la b.L.length b.lc) b.L):=fun f h=>f8.kp (Kp.of_below (e:=none) h) Fm;generalize hR:P8 b.T mp lk bh b.L x0=R;unfold P8 at hR;generalize hL:b.L=LL at *;obtain⟨a3,a4,a5,a6,a7,a8,t,A,ya,yn,yc,B,C,D,F,G,I,J,K,N,O,cn,Q,V,m,Z,ma,ml,mc,la,lc,T,L⟩:=b;simp only at hL;subst hL;unfold Hid at c0;simp only[PBd.pval,FrV.val]at c8 c9 c6 c7 c0 hR ⊢;have k8:=Bc c0;have g1:=Bc c8;have k9:=Bc c9;have g2:=Bc c6;have l0:=Bc c7;have l1:=Bc g0;have HR:=Bc hR;clear c8 c9 c6 c7 g0 hR hT hM f8 c0 hl;have d0:=Bu w (O25 (.p t) T.length A ya yn yc B C D F G I J K N O cn Q V m Z ma ml mc la L.length lc a3 a4 a5 a6 a7 a8 (.p t) T.length A ya yn yc B C D F G I J K N O cn Q V m Z ma ml mc la L.length lc) (O8 0 0 0);have P0:=Cb w (O25 (.p t) T.length A ya yn yc B C D F G I J K N O cn Q V m Z ma ml mc la L.length lc a3 a4 a5 a6 a7 a8 (.p t) T.length A ya yn yc B C D F G I J K N O cn Q V m Z ma ml mc la L.length lc) (O8 0 0 0);have Z0:=Bx w (O25 (.p t) T.length A ya yn yc B C D F G I J K N O cn Q V m Z ma ml mc la L.length lc a3 a4 a5 a6 a7 a8 (.p t) T.length A ya yn yc B C D F G I J K N O cn Q V m Z ma ml mc la L.length lc) (O8 0 0 0);go_in
 go_upto_region 1 with fail
 generalize hW:(w.alloc (O25 (.p t) T.length A ya yn yc B C D F G I J K N O cn Q V m Z ma ml mc la L.length lc a3 a4 a5 a6 a7 a8 (.p t) T.length A ya yn yc B C D F G I J K N O cn Q V m Z ma ml mc la L.length lc)).alloc (O8 0 0 0)=W0 at *;clear hW;obtain⟨m0,m1,m2,m3,m4,m5,m6,m7,m8,m9,g3,g4,b3,g5,g6,g7,g8,g9,h0,h1,h2,h3,h4,h5,h6,h7,h8,h9⟩:=Bnk P0;simp at m0 m1 m2 m3 m4 m5 m6 m7 m8 m9 g3 g4 b3 g5 g6 g7 g8 g9 h0 h1 h2 h3 h4 h5 h6 h7 h8 h9;go_wp2_with fail;refine(Ba g2 _ d0).mono ?_;rintro e w1 ⟨u,rfl,hu,b4⟩;obtain⟨ua,un,uc,va,vn,vc⟩:=u;have d1:=QB d0 b4;have i3:=d1.size;have P1:=Bg (stay b4 P0) (O23 ua un uc va vn vc);have Z1:=Bg (stay b4 Z0) (O23 ua un uc va vn vc);have Y1:=Be w1 (O23 ua un uc va vn vc);have o6:=Sp (stay b4 Z0);have b5:=d1.alloc i3 (O23 ua un uc va vn vc);have i4:=b5.size;have a9:=hu.below (QN (O23 ua un uc va vn vc));clear b4 hu P0 Z0 m0 m1 m2 m3 m4 m5 m6 m7 m8 m9 g3 g4 b3 g5 g6 g7 g8 g9 h0 h1 h2 h3 h4 h5 h6 h7 h8 h9;have d2:=Ba g1 ⟨ua,un,uc,va,vn,vc⟩ x0 _ b5 a9;simp only at d2;have c:=Ba HR;generalize Ic T mp x0 0=FA at *;have d3:=Bc d2;clear d2 g1 HR;cases FA with
 | false =>
  rw[Th rfl]at c;obtain rfl:=c;go_wp2_with (refine Bsj Ls 212 (.tmp 1) Ls w.heap.size Ls 212 _ (0,0) _ P1 Br9 Ls Tryz.infoPass ?_)
  refine Qm (Ba d3) ?_;intro w3 a1;have c1:=b5.trans (a1.mono i4);have Z3:=stay a1 Z1;obtain⟨z0,z1,z2⟩:=cl3 Z3;simp at z0 z1 z2;obtain⟨q0,q1,q2⟩:=fr3 Z3;have lr:=Sp Z3;go_wp2_with fail;refine tb (.agg #[.i 9,.i 0,.i 0]) (by simp[results,Bwl,go_sem,z0,z1,z2]) ?_;exact⟨rfl,by repeat (first|refine Bry ?_ Hd _|exact c1)⟩
 | true =>
  rw[Pk Hd]at c;have HA:Hid (Ms mp lk bh (L.drop 0) (some x0)=R):=c;clear c;go_wp2_with (refine Bsj Ls 212 (.tmp 1) Ls w.heap.size Ls 212 _ (0,0) _ P1 Br9 Ls Tryz.infoPass ?_)
  refine Qm (Ba d3) ?_;intro w3 a1;have c1:=b5.trans (a1.mono i4);have P3:=stay a1 P1;have Z3:=stay a1 Z1;have Y3:=stay a1 Y1;have i5:=a9.below a1;have b3:=Bb P3 12;simp at b3;clear a1 P1 Z1 Y1 a9 b5 d3;go_wp2
  go_loopw [4,22] (fun s4 l2 wr=>∃(q:Nat) (o:Option Bf) (u:FrV),q<=L.length/\s4=.bool o.isSome/\l2=.i (q:Int)/\Hid (Ms mp lk bh (L.drop q) o=R) /\
    wr.heap[w1.heap.size]?=some (O23 u.la u.ln u.lc u.sa u.sn u.sc)/\(∀x,o=some x->u.is x wr/\P x) /\
    Bl w wr/\wr.heap[w.heap.size]?=some (O25 (.p t) T.length A ya yn yc B C D F G I J K N O cn Q V m Z ma ml mc la L.length lc a3 a4 a5 a6 a7 a8 (.p t) T.length A ya yn yc B C D F G I J K N O cn Q V m Z ma ml mc la L.length lc)/\wr.heap[w.heap.size+1]?=some (O8 0 0 0))
   (fun _ v _=>L.length-(intOf v).toNat)
  case atStart=>exact⟨0,some x0,⟨ua,un,uc,va,vn,vc⟩,Ck,rfl,rfl,HA,Y3,fun x hx=>(by obtain rfl:=Option.some.inj hx;exact⟨i5,f9⟩),c1,P3,Z3⟩
  case round=>
   clear HA P3 Z3 Y3 i5 c1 b3 d1 i3 d0 f9 g2;obtain⟨q,o,u,hq,rfl,rfl,HA,Y,hu,hB,CP,CZ⟩:=hrel;obtain⟨ua,un,uc,va,vn,vc⟩:=u;simp only at Y;have l3:=hB.size;by_cases d4:q<L.length
   ·obtain⟨g,hg,o7,_,c2⟩:=Cf (Ba k8 _ hB) Ck;obtain⟨t1,t2,t3,t4⟩:=Wu L q d4;have y0:=(c2 (q*3) Ck).trans t1;have y1:=(c2 (q*3+1) Ck).trans t2;have y2:=(c2 (q*3+2) Ck).trans t3;have l4:=Brn d4;have hd:L.drop q=L[q]::L.drop (q+1):=Brj d4;have c:=Ba HA;rw[hd,Ms]at c;generalize L[q]=l5 at *;obtain⟨j,l,ix⟩:=l5;simp only at y0 y1 y2 c;subst hg;have kb:(q:Int)<(L.length:Int):=Ck;have d5:=Ba l0 ⟨j,l,ix⟩ l4;have i6:=Ba l1 j;have i7:=fun f h=>Ba k9 j f h;have i8:=fun f=>Z9 l f;simp only at d5;generalize mp j=c3 at *;have l6:=Bc d5;have i9:=Bc i7;have l7:=Bc i8;have b6:=Bc c;have d6:=hB.alloc l3 (O15 j l ix);have d7:=Bg CP (O15 j l ix);have j2:=Bg CZ (O15 j l ix);have j3:=Be wr (O15 j l ix);have j4:=Bg Y (O15 j l ix);clear d5 i7 i8 hd c2 c HA t1 t2 t3 t4;go_wp2_with (refine Bsj Ls 212 (.tmp 1) Ls w.heap.size Ls 212 _ (0,0) _ d7 Br9 Ls Tryz.infoPass ?_)
    refine(Ba i9 _ d6).mono ?_;rintro e w4 ⟨u2,rfl,a9,a2⟩;obtain⟨l8,l9,n0,n1,n2,n3⟩:=u2;have c4:=QB d6 a2;have j5:=c4.size;have d8:=stay a2 d7;have d9:=stay a2 j2;have c5:=stay a2 j3;have X4:=stay a2 j4;have lI:=Sp Y;have b0:=Bb X4 0;have b1:=Bb X4 1;obtain⟨p0,p1⟩:=fr2 X4;have lX:=Sp X4;have n4:=Sp c5;simp at b0 b1
    go_upto_if 33 with fail
    go_cut [4] from 23 to 54 (fun s4 wx=>∃u':FrV,s4=.bool (c3.or o).isSome/\wx.heap[w1.heap.size]?=some (O23 u'.la u'.ln u'.lc u'.sa u'.sn u'.sc)/\(∀x,c3.or o=some x->u'.is x wx/\P x) /\
     Bl w wx/\wx.heap[w.heap.size]?=some (O25 (.p t) T.length A ya yn yc B C D F G I J K N O cn Q V m Z ma ml mc (.p g) L.length lc a3 a4 a5 a6 a7 a8 (.p t) T.length A ya yn yc B C D F G I J K N O cn Q V m Z ma ml mc (.p g) L.length lc)/\wx.heap[w.heap.size+1]?=some (O8 0 0 0)/\wx.heap[wr.heap.size]?=some (O15 j l ix))
    case first=>
     cases c3 with
     | none =>
      go_wp2
      go_meet
      case rel=>exact⟨⟨ua,un,uc,va,vn,vc⟩,rfl,Bg X4 _,fun x hx=>⟨(((hu x hx).1.below (QN _)).below a2).below (QN _),(hu x hx).2⟩,c4.alloc j5 _,Bg d8 _,Bg d9 _,Bg c5 _⟩
     | some z =>
      have n5:=i6 z rfl;go_wp2
      go_meet
      case rel=>exact⟨⟨l8,l9,n0,n1,n2,n3⟩,rfl,Bg (Pu X4 _ _) _,fun x hx=>(by obtain rfl:=Option.some.inj hx;exact⟨(a9.set2 X4 _ _).below (QN _),n5⟩),((c4.setCell Fr _).setCell Fr _).alloc Fr _,Bg ((Hx Ck).trans d8) _,Bg ((Hx Ck).trans d9) _,Bg ((Hx Ck).trans c5) _⟩
    case rest=>
     obtain⟨u3,rfl,X5,j6,b7,P5,Z5,I5⟩:=hcut;obtain⟨j7,j8,j9,k0,k2,k3⟩:=u3;simp only at X5;have k4:=b7.size;have o8:=Sp X5;have c:=Ba b6;clear d8 d9 c5 X4 b0 b1 p0 p1 lX n4 a9 hu a2 c4 j5 d7 j2 j3 j4 CP CZ Y d6 b6 y0 y1 y2 i6 i9;generalize c3.or o=o1 at *;cases o1 with
     | none =>
      have HG:Hid (Ms mp lk bh (L.drop (q+1)) none=R):=c;clear c;go_wp2;go_roundw
      case rel=>exact⟨q+1,none,⟨j7,j8,j9,k0,k2,k3⟩,Ck,rfl,Mg,HG,X5,fun x hx=>(by cases hx),b7,P5,Z5⟩
      case measure=>simp[intOf];omega
     | some x =>
      obtain⟨k5,n6⟩:=j6 x rfl;have f0:=Ba l6 ⟨j7,j8,j9,k0,k2,k3⟩ x _ b7 k5 n6;simp only at c f0;have f1:∀y,bh ⟨j,l,ix⟩ x=some y->(if Dl l=true then bh ⟨j,l,ix⟩ x else none)=if Dl l=true then some y else none:=fun y hy=>by rw[hy]
      generalize lk ⟨j,l,ix⟩ x=LV at *;have k6:=Bc f0;clear f0 j6;have b0:=Bb X5 0;have b1:=Bb X5 1;obtain⟨i0,i1,i2⟩:=cl3 I5;simp at b0 b1 i0 i1 i2;by_cases b8:LV=0
      ·rw[Pk (by simpa using b8)]at c;have b6:=Bc c;subst b8;clear c;go_wp2_with (refine Bsj Ls 212 (.tmp 1) Ls w.heap.size Ls 212 _ (0,0) _ P5 Br9 Ls Tryz.infoPass ?_)
       refine(Ba k6).mono ?_;rintro e w6 ⟨u6,rfl,n7,a0⟩;obtain⟨y,hy,n8,n9⟩:=n7 (by trivial);obtain⟨f2,f3,f4,f5,f6,f7⟩:=u6;have c:=Ba b6;rw[f1 y hy]at c;have b9:=b7.trans (a0.mono k4);have o0:=b9.size;have P6:=stay a0 P5;have Z6:=stay a0 Z5;have I6:=stay a0 I5;have X6:=stay a0 X5;have o2:=Bb X6 0;have o3:=Bb X6 1;obtain⟨e0,e1⟩:=fr2 X6;have o9:=Sp X6;have j1:=Bb I6 1;have o4:=Sp I6;simp at o2 o3 j1;clear f1 hy b0 b1 i0 i1 i2 a0 P5 Z5 I5 X5 k5 b6;have k7:=Bc c;clear c;have I7:((w6.setCell (.a w1.heap.size 0) (.s f2 f3 f4)).setCell (.a w1.heap.size 1) (.s f5 f6 f7)).heap[wr.heap.size]?=some (O15 j l ix):=(Hx Ck).trans I6;have k1:=Bb I7 1;have p2:=Sp I7;simp at k1;go_wp2_with fail;refine Qm (Ba l7 _) ?_;rintro w7 rfl;have c:=Ba k7;generalize Dl l=gi at *;cases gi
       all_goals
        have HG:=Bc c;clear c k7;go_wp2;go_roundw
        case rel=>exact⟨q+1,_,⟨f2,f3,f4,f5,f6,f7⟩,Ck,rfl,Mg,HG,Bg (Pu X6 _ _) _,fun x hx=>(by first|(cases hx;done)|(obtain rfl:=Option.some.inj hx;exact⟨(n8.set2 X6 _ _).below (QN _),n9⟩)),((b9.setCell Fr _).setCell Fr _).alloc Fr _,Bg ((Hx Ck).trans P6) _,Bg ((Hx Ck).trans Z6) _⟩
        case measure=>simp[intOf];omega
      rw[Th b8]at c;have m:(LV != 0)=true:=by simpa using b8
      obtain rfl:=c;clear b8 f1;go_wp2_with (refine Bsj Ls 212 (.tmp 1) Ls w.heap.size Ls 212 _ (0,0) _ P5 Br9 Ls Tryz.infoPass ?_)
      refine(Ba k6).mono ?_;rintro e w6 ⟨u6,rfl,-,a0⟩;obtain⟨f2,f3,f4,f5,f6,f7⟩:=u6;have b9:=b7.trans (a0.mono k4);have o0:=b9.size;have Z6:=stay a0 Z5;have I6:=stay a0 I5;have j0:=Bb I6 0;have o4:=Sp I6;simp at j0;obtain⟨z0,z1,z2⟩:=cl3 Z6;simp at z0 z1 z2;obtain⟨q0,q1,q2⟩:=fr3 Z6;have lr:=Sp Z6;clear b0 b1 i0 i1 i2 a0;go_wp2_with fail;refine tb (.agg #[.i LV,.i 0,.i j]) (by simp[results,Bwl,go_sem,z0,z1,z2,lr]) ?_;exact⟨rfl,by repeat (first|refine Bry ?_ Hd _|refine Bs4 ?_ (by first|omega|(simp;omega)) _|exact b9)⟩
   have c:=Ba HA;rw[Brq Ck,Ms]at c;obtain rfl:=c;have kb:¬(q:Int)<(L.length:Int):=Ck;obtain⟨z0,z1,z2⟩:=cl3 CZ;simp at z0 z1 z2;obtain⟨q0,q1,q2⟩:=fr3 CZ;have lr:=Sp CZ;clear HA;go_wp2_with fail;refine tb (.agg #[.i 0,.i 0,.i 0]) (by simp[results,Bwl,go_sem,z0,z1,z2]) ?_;exact⟨rfl,by repeat (first|refine Bry ?_ Hd _|exact hB)⟩
def Bmg(b:PBd)(w:TW):Calls prog 109 #[.agg #[.s b.fa1 b.fl1 b.fc1,.s b.fa2 b.fl2 b.fc2],.agg #[.s (.p b.tg) b.T.length b.tc,.s b.ya b.yn b.yc],.agg #[.i b.cl,.i b.nm,.s b.pa b.pl b.pc,.i b.r1,.i b.r2,.i b.lo,.i b.st,.s b.ca b.cn b.cc,.s b.ha b.hl b.hc,.s b.ma b.ml b.mc],.s b.la b.L.length b.lc] w fun e c => e=.returned b.val/\Bl w c:=by
 obtain⟨f,g,h,j,l,m,q,t,ya,yn,yc,v,z,A,B,C,D,F,G,I,J,cn,K,N,O,Q,V,Y,Z,la,lc,T,L⟩:=b;simp only[PBd.val];go_in;go_wp2;refine tb (.agg #[.s f g h,.s j l m,.s (.p q) T.length t,.s ya yn yc,.i v,.i z,.s A B C,.i D,.i F,.i G,.i I,.s J cn K,.s N O Q,.s V Y Z,.s la L.length lc]) (by simp[results,results109,go_sem]) ?_;exact⟨rfl,U9 _ _ _ _ _⟩
def Ff (FR:Rd.Mth->Int × Int):Nat->List Rd.Mth->Int × Int × Int
 | _,[]=>(0,0,0)
 | k,m::r=>if (FR m).1≠0 then ((FR m).1,(k:Int),(FR m).2) else Ff FR (k+1) r
theorem Nh{w:World}{u b t:Nat}{g e f h:Option Addr}{O i j l m p q s:Nat}{c B v z A C:Int}{D F G I:Option Addr}{J K cn L N Q V Y:Nat}(hF:w.heap[u]?=some (O1 g O i e j l))(Z:w.heap[b]?=some (O2 f m p h q s))(hM:w.heap[t]?=some (O18 c B D J K v z A C F cn L G N Q I V Y)):(w.cell? ⟨u,0,none⟩=some (.slice g O i)/\w.cell? ⟨u,1,none⟩=some (.slice e j l))/\(w.cell? ⟨b,0,none⟩=some (.slice f m p)/\w.cell? ⟨b,1,none⟩=some (.slice h q s))/\w.cell? ⟨t,0,none⟩=some (.int .i64 c)/\w.cell? ⟨t,1,none⟩=some (.int .i64 B)/\w.cell? ⟨t,2,none⟩=some (.slice D J K)/\w.cell? ⟨t,3,none⟩=some (.int .i64 v)/\w.cell? ⟨t,4,none⟩=some (.int .i64 z)/\w.cell? ⟨t,5,none⟩=some (.int .i64 A)/\w.cell? ⟨t,6,none⟩=some (.int .i64 C)/\w.cell? ⟨t,7,none⟩=some (.slice F cn L)/\w.cell? ⟨t,8,none⟩=some (.slice G N Q)/\w.cell? ⟨t,9,none⟩=some (.slice I V Y):=by
 refine⟨⟨?_,?_⟩,⟨?_,?_⟩,?_,?_,?_,?_,?_,?_,?_,?_,?_,?_⟩
 all_goals first|(rw[Bb hF];rfl)|(rw[Bb Z];rfl)|(rw[Bb hM];rfl)
def Kg{P:Program}{e:Array Oper}{o:Oper}{a:Act}{w:TW}{K:Act->TW->Prop}{Q:Exit->Act->TW->Prop}{E:Prop}(f:o.guard=none)(ty:TypeId)(x y:Operand)(i:o.op=.store ty x y) (g:Nat)(b:Array Value)(j:a.eval x=.q g 0)(l:a.eval y=.agg b)(t:TypeId)(c:Array Value)(m:w.heap[g]?=some (.cells c t (0,0)))(p:(P.info? ty).map (·.size)=some b.size) (s:c.size=b.size)(v:b.all (·.oneCell')=true)(h:K (a.put o.dst undef) (w.setRow g b)):if Region.wanted o (yielded e a.tmps)=true then Oper.wp P o a w K Q else E:=by
 have z:Region.wanted o (yielded e a.tmps)=true:=by simp[Region.wanted,f]
 rw[Th z];exact wp_store_row ty x y i g b j l t c m p s v h
def Bbt{u b:Nat}{v w:TW}(c:Below u v w)(h:u<=b)(e:Array Value):Below u v (w.setRow b e) :=
 ⟨c.os,c.tape,c.output,by rw[Bwq];exact c.size,fun k f=>(Bwa w b k e Ck).trans (c.block k f)⟩
def Vl{w:TW}{u:Nat}{G b:Array Value}{j:TypeId}(c:w.heap[u]?=some (.cells G j (0,0))):(w.setRow u b).heap[u]?=some (.cells b j (0,0)):=Bw6 w u G b j (0,0) c
def Dm{w:TW}{u k:Nat}{G:Array Value}(h:k≠u):(w.setRow u G).heap[k]?=w.heap[k]?:=Bwa w u k G h
def Bjs(a3 a6:TA)(a4 a5 a2 bm:Nat)(a9:List (Rd.Cls×Value))(c:List (Rd.Mth×Ex))(FR:Rd.Mth->Int×Int)(w:TW)(g7:a9.length<=6)(c9:Fh w bm (.s a3 a4 a5) a9)(i6:c.length<=1000)(d0:Eb w bm (.s a6 c.length a2) c) (d1:∀p∈c,p.1.code.length<=1000/\∀x∈p.1.code,0<=x) (d2:∀p∈c,∀(b:PBd) bb f,Bl w f->b.fa1=a3->b.fl1=a4->b.fc1=a5->b.fa2=a6->b.fl2=c.length->b.fc2=a2->b.T=Tr.tree (a9.map Prod.fst)->b.L=Cd.readL p.1.code->Dy f b.tg b.T->f.ownsRow w.heap.size 105 1 (.s b.ya b.yn b.yc) (7+a9.length) (Tr.fvals a9)->(⟨b.cl,b.nm,b.pa,b.pl,b.pc,b.r1,b.r2,b.lo,b.st,b.ca,b.cn,b.cc,b.ha,b.hl,b.hc,b.ma,b.ml,b.mc⟩:PM).is p.1 f bm->Jz f bb (.s b.la b.L.length b.lc) b.L->Calls prog 129 #[b.pval] f fun e g8=>e=.r (.agg #[.i (FR p.1).1,.i 0,.i (FR p.1).2])/\Bl f g8):Calls prog 80 #[.agg #[.s a3 a4 a5,.s a6 c.length a2]] w fun e f=>e=.r (.agg #[.i (Ff FR 0 (c.map Prod.fst)).1,.i (Ff FR 0 (c.map Prod.fst)).2.1,.i (Ff FR 0 (c.map Prod.fst)).2.2])/\Bl w f:=by
 have d3:=fun f (h:Bl w f)=>Sf a3 a6 a4 a5 c.length a2 bm a9 f g7 (c9.kp (Kp.of_below (e:=none) h) Fm Fm);have g9:Hid (∀f,Bl w f->Eb f bm (.s a6 c.length a2) c):=fun f h=>d0.kp (Kp.of_below (e:=none) h) Fm Fm Fm Fm Fm;generalize hR:Ff FR 0 (c.map Prod.fst)=R;have HR:Hid (Ff FR 0 ((c.map Prod.fst).drop 0)=R):=hR;have h1:=Bc d3;have h2:=Bc d2;have h3:=Bc d1;clear d3 d2 d1 hR c9 d0;have d4:=Bu w (O1 a3 a4 a5 a6 c.length a2) (O8 0 0 0);have F0:=Cb w (O1 a3 a4 a5 a6 c.length a2) (O8 0 0 0);have Z0:=Bx w (O1 a3 a4 a5 a6 c.length a2) (O8 0 0 0);have h4:((w.alloc (O1 a3 a4 a5 a6 c.length a2)).alloc (O8 0 0 0)).heap.size=w.heap.size+2:=Hd;go_in;go_wp2_with fail;refine(Ba h1 _ d4).mono ?_;rintro e w1 ⟨v,tc,ya,yn,yc,rfl,d5,d6,i7,b6⟩;generalize Tr.tree (a9.map Prod.fst)=T at *;have c1:=QB d4 b6;have d7:=c1.size;have lZ:=Sp (stay b6 Z0);have F1:=Bg (stay b6 F0) (O2 (.p v) T.length tc ya yn yc);have Z1:=Bg (stay b6 Z0) (O2 (.p v) T.length tc ya yn yc);have T1:=Be w1 (O2 (.p v) T.length tc ya yn yc);have b5:=c1.alloc d7 (O2 (.p v) T.length tc ya yn yc);have d8:=d5.below (QN (O2 (.p v) T.length tc ya yn yc));have d9:=Sy (Dc d6 (Kp.of_below (e:=none) (QN (O2 (.p v) T.length tc ya yn yc))) Fm) (show w.heap.size<=_ by rw[h4];omega);clear b6 F0 Z0 d5 d6;have f1:=Bb F1 1;simp at f1;go_wp2
 go_loopw [16] (fun s wr=>∃q:Nat,q<=c.length/\s=.i (q:Int)/\Hid (Ff FR q ((c.map Prod.fst).drop q)=R)/\Bl w wr/\wr.heap[w.heap.size]?=some (O1 a3 a4 a5 a6 c.length a2)/\wr.heap[w.heap.size+1]?=some (O8 0 0 0)/\wr.heap[w1.heap.size]?=some (O2 (.p v) T.length tc ya yn yc)/\Dy wr v T/\wr.ownsRow w.heap.size 105 1 (.s ya yn yc) (7+a9.length) (Tr.fvals a9))
  (fun s _=>c.length-(intOf s).toNat)
 case atStart=>exact⟨0,Ck,rfl,HR,b5,F1,Z1,T1,d8,d9⟩
 case round=>
  clear HR b5 F1 Z1 T1 d8 d9 f1 c1 d7;obtain⟨q,hq,rfl,HR,hB,CF,CZ,CT,h5,h6⟩:=hrel;have h7:=hB.size;by_cases b9:q<c.length
  ·obtain⟨m,g,hg,i8,Ev,hm,-⟩:=(Ba g9 _ hB).mth2 b9;obtain⟨y0,y1,y2,y3,y4,y5,y6,y7,y8,y9⟩:=T5 Ev;have hd:(c.map Prod.fst).drop q=c[q].1::(c.map Prod.fst).drop (q+1):=by rw[Brj (by simpa using b9)];simp
   have hr:=Ba HR;rw[hd,Ff]at hr;have b3:=Ba h2 c[q] (Brn b9);obtain⟨h8,h9⟩:=Ba h3 c[q] (Brn b9);generalize c[q].1=x at *;have kb:(q:Int)<(c.length:Int):=Ck;have f0:=hm.cn;obtain⟨z,A,B,D,F,G,I,J,N,j,cn,l,O,Q,V,Y,Z,mc⟩:=m;simp only at y0 y1 y2 y3 y4 y5 y6 y7 y8 y9 f0;subst f0;have i0:=hB.alloc h7 (O18 z A B D F G I J N j x.code.length l O Q V Y Z mc);have f2:=Bbr x.code j l bm (wr.alloc (O18 z A B D F G I J N j x.code.length l O Q V Y Z mc)) h8 h9 ((hm.below (QN (O18 z A B D F G I J N j x.code.length l O Q V Y Z mc))).code);have f3:=Bc f2;have f4:=Bc b3;have f5:=Bc hr;have f6:=Bg CF (O18 z A B D F G I J N j x.code.length l O Q V Y Z mc);have f7:=Bg CZ (O18 z A B D F G I J N j x.code.length l O Q V Y Z mc);have f8:=Bg CT (O18 z A B D F G I J N j x.code.length l O Q V Y Z mc);have f9:=Be wr (O18 z A B D F G I J N j x.code.length l O Q V Y Z mc);subst hg;clear f2 b3 hr hd Ev HR;go_wp2_with fail;refine(Ba f3).mono ?_;rintro e t ⟨la,lc,rfl,g0,b2⟩;have b5:=QB i0 b2;have i1:=b5.size;have b0:=stay b2 f6;have g1:=stay b2 f7;have a7:=stay b2 f8;have b1:=stay b2 f9;have i2:=Sp b1;have i3:=Sp a7;have c2:=fun w=>Bmg ⟨a3,a4,a5,some ⟨g,0,none⟩,c.length,a2,v,tc,ya,yn,yc,z,A,B,D,F,G,I,J,N,j,x.code.length,l,O,Q,V,Y,Z,mc,la,lc,T,Cd.readL x.code⟩ w;simp only[PBd.val]at c2;have c3:=Bc c2;clear c2 f6 f7 f8 f9
   go_upto_region 6 with fail
   go_cut [9] from 17 to 45 (fun s9 wx=>∃pb,s9=.q pb 0/\wx.heap[pb]?=some (O25 (.p v) T.length tc ya yn yc z A B D F G I J N j x.code.length l O Q V Y Z mc la (Cd.readL x.code).length lc a3 a4 a5 (.p g) c.length a2 (.p v) T.length tc ya yn yc z A B D F G I J N j x.code.length l O Q V Y Z mc la (Cd.readL x.code).length lc)/\Bl t wx)
   case first=>
    go_wp2;refine Br4 (S:=(fun f=>(f.C w.heap.size 0 (.s a3 a4 a5)/\f.C w.heap.size 1 (.s (.p g) c.length a2))/\(f.C w1.heap.size 0 (.s (.p v) T.length tc)/\f.C w1.heap.size 1 (.s ya yn yc))/\f.C wr.heap.size 0 (.i z)/\f.C wr.heap.size 1 (.i A)/\f.C wr.heap.size 2 (.s B D F)/\f.C wr.heap.size 3 (.i G)/\f.C wr.heap.size 4 (.i I)/\f.C wr.heap.size 5 (.i J)/\f.C wr.heap.size 6 (.i N)/\f.C wr.heap.size 7 (.s j x.code.length l)/\f.C wr.heap.size 8 (.s O Q V)/\f.C wr.heap.size 9 (.s Y Z mc))) Lt (Nh b0 a7 b1) (fun a0=>?_);refine tq 0 (.agg #[.s (.p v) T.length tc,.s ya yn yc]) a0 ?_;refine tq 1 (.agg #[.i z,.i A,.s B D F,.i G,.i I,.i J,.i N,.s j x.code.length l,.s O Q V,.s Y Z mc]) a0 ?_;refine tq 2 (.s la (Cd.readL x.code).length lc) a0 ?_;refine tq 3 (.agg #[.s a3 a4 a5,.s (.p g) c.length a2]) a0 ?_;refine tq 4 (.agg #[.s (.p v) T.length tc,.s ya yn yc]) a0 ?_;refine tq 5 (.agg #[.i z,.i A,.s B D F,.i G,.i I,.i J,.i N,.s j x.code.length l,.s O Q V,.s Y Z mc]) a0 ?_;refine tq 6 (.s la (Cd.readL x.code).length lc) a0 ?_;refine Brv (rs:=[7,9]) Lt Hd ?_;refine Bri (o:=⟨_,_,_,_,_,_⟩) rfl (fun K hK=>?_) (Bri (o:=⟨_,_,_,_,_,_⟩) rfl (fun K hK=>?_) Bro)
    ·go_simp;refine Qm (Ba c3 _) ?_;intro w5 a1;have c4:t.heap.size<=w5.heap.size:=a1.size
     try dsimp only
     clear a0;refine hK.out _ _ (Nh (by exact stay a1 (show t.drew.heap[_]?=_ from b0)) (by exact stay a1 (show t.drew.heap[_]?=_ from a7)) (by exact stay a1 (show t.drew.heap[_]?=_ from b1))) (fun a0=>?_);clear hK K
     try simp only[QX]
     refine tq 8 (.agg #[.s (.p v) T.length tc,.s ya yn yc,.i z,.i A,.s B D F,.i G,.i I,.i J,.i N,.s j x.code.length l,.s O Q V,.s Y Z mc,.s la (Cd.readL x.code).length lc,.s a3 a4 a5,.s (.p g) c.length a2,.s (.p v) T.length tc,.s ya yn yc,.i z,.i A,.s B D F,.i G,.i I,.i J,.i N,.s j x.code.length l,.s O Q V,.s Y Z mc,.s la (Cd.readL x.code).length lc]) a0 ?_;refine tr 9 fun K hK=>?_;go_simp;clear a0;refine hK.out _ _ (Nh (by exact Bg (stay a1 (show t.drew.heap[_]?=_ from b0)) _) (by exact Bg (stay a1 (show t.drew.heap[_]?=_ from a7)) _) (by exact Bg (stay a1 (show t.drew.heap[_]?=_ from b1)) _)) (fun a0=>?_);clear hK K
     try simp only[QX]
     have b7:=Be w5 (O25 none 0 0 none 0 0 0 0 none 0 0 0 0 0 0 none 0 0 none 0 0 none 0 0 none 0 0 none 0 0 none 0 0 none 0 0 none 0 0 0 0 none 0 0 0 0 0 0 none 0 0 none 0 0 none 0 0 none 0 0);refine tr 10 fun K hK=>?_;refine Kg Ls 212 _ _ Ls w5.heap.size #[.s (.p v) T.length tc,.s ya yn yc,.i z,.i A,.s B D F,.i G,.i I,.i J,.i N,.s j x.code.length l,.s O Q V,.s Y Z mc,.s la (Cd.readL x.code).length lc,.s a3 a4 a5,.s (.p g) c.length a2,.s (.p v) T.length tc,.s ya yn yc,.i z,.i A,.s B D F,.i G,.i I,.i J,.i N,.s j x.code.length l,.s O Q V,.s Y Z mc,.s la (Cd.readL x.code).length lc] Ls Ls 212 _ b7 Tryz.infoPass Ls (by simp[Value.oneCell']) ?_;clear a0;refine hK.out _ _ (Nh ((Dm Ck).trans (Bg (stay a1 (show t.drew.heap[_]?=_ from b0)) _)) ((Dm Ck).trans (Bg (stay a1 (show t.drew.heap[_]?=_ from a7)) _)) ((Dm Ck).trans (Bg (stay a1 (show t.drew.heap[_]?=_ from b1)) _))) (fun a0=>?_);clear hK K
     try simp only[Act.put]
     refine Bsg Lt ?_ _;go_wp2
     go_meet
     case rel=>exact⟨w5.heap.size,rfl,Vl b7,Bbt (((Brm _ _).drew.trans a1).alloc c4 _) c4 _⟩
    go_simp;clear a0;refine hK.out _ _ (Nh (by exact Bg (show t.drew.heap[_]?=_ from b0) _) (by exact Bg (show t.drew.heap[_]?=_ from a7) _) (by exact Bg (show t.drew.heap[_]?=_ from b1) _)) (fun a0=>?_);clear hK K
    try simp only[QX]
    refine tr 7 fun K hK=>?_;go_simp;refine Qm (Ba c3 _) ?_;intro w5 a1;have c4:t.heap.size+1<=w5.heap.size:=by have:=a1.size;simp at this;exact this
    try dsimp only
    clear a0;refine hK.out _ _ (Nh (by exact stay a1 (Bg (show t.drew.heap[_]?=_ from b0) _)) (by exact stay a1 (Bg (show t.drew.heap[_]?=_ from a7) _)) (by exact stay a1 (Bg (show t.drew.heap[_]?=_ from b1) _))) (fun a0=>?_);clear hK K
    try simp only[QX]
    refine tq 8 (.agg #[.s (.p v) T.length tc,.s ya yn yc,.i z,.i A,.s B D F,.i G,.i I,.i J,.i N,.s j x.code.length l,.s O Q V,.s Y Z mc,.s la (Cd.readL x.code).length lc,.s a3 a4 a5,.s (.p g) c.length a2,.s (.p v) T.length tc,.s ya yn yc,.i z,.i A,.s B D F,.i G,.i I,.i J,.i N,.s j x.code.length l,.s O Q V,.s Y Z mc,.s la (Cd.readL x.code).length lc]) a0 ?_;have b7:=stay a1 (Be t.drew (O25 none 0 0 none 0 0 0 0 none 0 0 0 0 0 0 none 0 0 none 0 0 none 0 0 none 0 0 none 0 0 none 0 0 none 0 0 none 0 0 0 0 none 0 0 0 0 0 0 none 0 0 none 0 0 none 0 0 none 0 0));refine tr 10 fun K hK=>?_;refine Kg Ls 212 _ _ Ls t.heap.size #[.s (.p v) T.length tc,.s ya yn yc,.i z,.i A,.s B D F,.i G,.i I,.i J,.i N,.s j x.code.length l,.s O Q V,.s Y Z mc,.s la (Cd.readL x.code).length lc,.s a3 a4 a5,.s (.p g) c.length a2,.s (.p v) T.length tc,.s ya yn yc,.i z,.i A,.s B D F,.i G,.i I,.i J,.i N,.s j x.code.length l,.s O Q V,.s Y Z mc,.s la (Cd.readL x.code).length lc] Ls Ls 212 _ b7 Tryz.infoPass Ls (by simp[Value.oneCell']) ?_;clear a0;refine hK.out _ _ (Nh ((Dm Ck).trans (stay a1 (Bg (show t.drew.heap[_]?=_ from b0) _))) ((Dm Ck).trans (stay a1 (Bg (show t.drew.heap[_]?=_ from a7) _))) ((Dm Ck).trans (stay a1 (Bg (show t.drew.heap[_]?=_ from b1) _)))) (fun a0=>?_);clear hK K
    try simp only[Act.put]
    refine Bsg Lt ?_ _;go_wp2
    go_meet
    case rel=>exact⟨t.heap.size,rfl,Vl b7,Bbt ((((Brm _ _).drew).alloc (Bru _) _).trans (a1.mono Hd)) (Bru _) _⟩
   case rest=>
    obtain⟨pb,rfl,CP,b4⟩:=hcut;have c0:=b5.trans (b4.mono i1);have g2:=c0.size;have c5:Bl wr wc:=((QN (O18 z A B D F G I J N j x.code.length l O Q V Y Z mc)).trans (b2.mono Hd)).trans (b4.mono (by have:=b2.size;simp at this;omega));have i4:=stay b4 b0;have c6:=stay b4 g1;have i5:=stay b4 a7;have g3:=g0.kp (Kp.of_below (e:=none) b4) Fm;have g4:=h5.below c5;have g5:=Dc h6 (Kp.of_below (e:=none) c5) Fm;have b3:=Ba f4 ⟨a3,a4,a5,some ⟨g,0,none⟩,c.length,a2,v,tc,ya,yn,yc,z,A,B,D,F,G,I,J,N,j,x.code.length,l,O,Q,V,Y,Z,mc,la,lc,T,Cd.readL x.code⟩ _ wc c0 rfl rfl rfl rfl rfl rfl rfl rfl g4 g5 (hm.below c5) g3;simp only[PBd.pval]at b3;have hr:=Ba f5;generalize FR x=fr at *;obtain⟨c7,fr2⟩:=fr;simp only at b3 hr;have g6:=Bc b3;have i9:=Sp c6;clear b3 f5 f4 f3 c3 b0 g1 a7 b1 g0 b2 b4 b5 hm g3 i2 i3 y0 y1 y2 y3 y4 y5 y6 y7 y8 y9;by_cases h0:c7=0
    ·rw[Pk (by simpa using h0)]at hr;have HG:Hid (Ff FR (q+1) ((c.map Prod.fst).drop (q+1))=R):=hr;subst h0;clear hr;go_wp2_with (refine Bsj Ls 212 (.tmp 9) Ls pb Ls 212 _ (0,0) _ CP Br9 Ls Tryz.infoPass ?_)
     refine Qm (Ba g6) ?_;intro w7 a8;have b8:=c0.trans (a8.mono g2);go_wp2;go_roundw
     case rel=>exact⟨q+1,Ck,Mg,HG,b8.alloc b8.size _,Bg (stay a8 i4) _,Bg (stay a8 c6) _,Bg (stay a8 i5) _,(g4.below a8).below (QN _),Dc (Dc g5 (Kp.of_below (e:=none) a8) Fm) (Kp.of_below (e:=none) (QN _)) Fm⟩
     case measure=>simp[intOf];omega
    rw[Th h0]at hr;obtain rfl:=hr;have j0:(c7 != 0)=true:=by simpa using h0
    clear h0;go_wp2_with (refine Bsj Ls 212 (.tmp 9) Ls pb Ls 212 _ (0,0) _ CP Br9 Ls Tryz.infoPass ?_)
    refine Qm (Ba g6) ?_;intro w7 a8;have b8:=c0.trans (a8.mono g2);have j1:=b8.size;have c8:=stay a8 c6;obtain⟨z0,z1,z2⟩:=cl3 c8;simp at z0 z1 z2;obtain⟨q0,q1,q2⟩:=fr3 c8;have lr:=Sp c8;clear a8;go_wp2_with fail;refine tb (.agg #[.i c7,.i (q:Int),.i fr2]) (by simp[results,results80,go_sem,z0,z1,z2,lr]) ?_;exact⟨rfl,by repeat (first|refine Bry ?_ Fr _|refine Bry ?_ Hd _|refine Bs4 ?_ (by first|omega|(simp;omega)) _|exact b8)⟩
  have hr:=Ba HR;rw[Brq Fr,Ff]at hr;obtain rfl:=hr;have kb:¬(q:Int)<(c.length:Int):=Ck;obtain⟨z0,z1,z2⟩:=cl3 CZ;simp at z0 z1 z2;obtain⟨q0,q1,q2⟩:=fr3 CZ;have lr:=Sp CZ;clear HR;go_wp2_with fail;refine tb (.agg #[.i 0,.i 0,.i 0]) (by simp[results,results80,go_sem,z0,z1,z2]) ?_;exact⟨rfl,by repeat (first|refine Bry ?_ Hd _|exact hB)⟩
def Om (P V:Int × Int × Int):Int × Int × Int:=if P.1≠0 then P else if V.1≠0 then V else (0,0,0)
theorem Bo9{w:World}{k:Nat}{a B c:Int}(h:w.heap[k]?=some (O8 a B c)):w.cell? ⟨k,0,none⟩=some (.int .i64 a)/\w.cell? ⟨k,1,none⟩=some (.int .i64 B)/\w.cell? ⟨k,2,none⟩=some (.int .i64 c):=by
 refine⟨?_,?_,?_⟩
 all_goals (rw[Bb h];rfl)
def Bk2(s:ByteArray)(V:Int×Int×Int)(w:TW)(hs:s.size<=maxLen) (a5:(Gx s.data.toList).1=0->∀c f j l m p Y t v z,Bl w z->t.map Prod.fst=(Rd.read s.data.toList).1.classes->Fh z Y (.s c f j) t->v.map Prod.fst=(Rd.read s.data.toList).1.methods->Eb z Y (.s l m p) v->Calls prog 80 #[.agg #[.s c f j,.s l m p]] z fun e d7=>e=.r (.agg #[.i V.1,.i V.2.1,.i V.2.2])/\Bl z d7):Calls prog 53 #[.string s] w fun e z=>∃c f j l m p,e=.r (.tuple #[.agg #[.s c f j,.s l m p],.agg #[.i (Om (Gx s.data.toList) V).1,.i (Om (Gx s.data.toList) V).2.1,.i (Om (Gx s.data.toList) V).2.2]])/\((Om (Gx s.data.toList) V).1=0->∃Y t v,t.map Prod.fst=(Rd.read s.data.toList).1.classes/\Fh z Y (.s c f j) t/\v.map Prod.fst=(Rd.read s.data.toList).1.methods/\Eb z Y (.s l m p) v)/\Bl w z:=by
 have a6:=fun w=>Bi8 s w hs;unfold Om;generalize Gx s.data.toList=P at *;generalize Rd.read s.data.toList=q at *;obtain⟨P1,B,C⟩:=P;obtain⟨V1,V2,V3⟩:=V;simp only at a6 a5 ⊢;have a3:=Bc a6;have a7:=Bc a5;clear a6 a5;have b6:=Bu w (O1 none 0 0 none 0 0) (O8 0 0 0);have C0:=Cb w (O1 none 0 0 none 0 0) (O8 0 0 0);have D0:=Bx w (O1 none 0 0 none 0 0) (O8 0 0 0);by_cases Z:P1=0
 ·subst Z;by_cases h2:V1=0;subst h2;simp only[ne_eq,not_true_eq_false,Btv]
  rotate_left
  have f2:(V1 != 0)=true:=by simpa using h2
  have d8:=Bc h2;simp only[ne_eq,not_true_eq_false,Btv,h2,not_false_eq_true,Bv7];clear h2
  rotate_left
  all_goals
   go_in;go_wp2_with fail;refine(Ba a3 _).mono ?_;rintro e I ⟨c,f,j,l,m,p,rfl,b7,A⟩;obtain⟨t,v,a8,b8,a9,b9⟩:=b7 (by trivial);have a0:=QB b6 A;have c3:=a0.size;have D:=stay A C0;have F:=stay A D0;have f3:=Sp F;have b2:Bl I ((I.alloc (O1 c f j l m p)).alloc (O8 0 B C)):=Bu _ _ _;have c4:=a0.trans (b2.mono c3);have c5:=b8.kp (Kp.of_below (e:=none) b2) Fm Fm;have c6:=b9.kp (Kp.of_below (e:=none) b2) Fm Fm Fm Fm Fm;have c7:=Ba a7 (by trivial) c f j l m p _ t v _ c4 a8 c5 a9 c6;have HF:=Bc c7;have c8:=Cb I (O1 c f j l m p) (O8 0 B C);have a4:=Bx I (O1 c f j l m p) (O8 0 B C);have C2:=Bg (Bg D (O1 c f j l m p)) (O8 0 B C);have D2:=Bg (Bg F (O1 c f j l m p)) (O8 0 B C);have c9:=Bc a8;have d3:=Bc a9;clear c7 a7 a3 A C0 D0 D F b8 b9 a8 a9 b7;go_wp2_with fail;refine Qb (Ba HF) c4 ?_;intro w3 G b3;have f4:=b3.size;have C3:=stay G C2;have D3:=stay G D2;have d4:=stay G c8;have J:=stay G a4;have b4:=c5.kp (Kp.of_below (e:=none) G) Fm Fm;have b5:=c6.kp (Kp.of_below (e:=none) G) Fm Fm Fm Fm Fm;obtain⟨b0,b1⟩:=cl2 d4;obtain⟨k0,k1,k2⟩:=cl3 J;obtain⟨j0,j1,j2⟩:=fr3 J;have lA:=Sp J;have lB:=Sp d4;simp at b0 b1 k0 k1 k2;have K:=Bb C3 0;have L:=Bb C3 1;obtain⟨N,O,Q⟩:=cl3 D3;obtain⟨e0,e1⟩:=fr2 C3;obtain⟨g0,g1,g2⟩:=fr3 D3;have lC:=Sp C3;have lD:=Sp D3;simp at K L N O Q;clear G C2 D2 c8 a4 HF
  ·have K1:=Kp.set (b:=w.heap.size+2) (i:=0) J (.i 0);have K2:=Kp.set (b:=w.heap.size+2) (i:=1) (Bt (i:=0) J (.i 0)) (.i V2);have K3:=Kp.set (b:=w.heap.size+2) (i:=2) (Bt (i:=1) (Bt (i:=0) J (.i 0)) (.i V2)) (.i V3);have KK:=((((((K1.trans K2).trans K3).trans (Kp.set_lo (i:=0) (g:=w.heap.size) Ck (.s c f j))).trans (Kp.set_lo (i:=1) (g:=w.heap.size) Ck (.s l m p))).trans (Kp.set_lo (i:=0) (g:=w.heap.size+1) Ck (.i 0))).trans (Kp.set_lo (i:=1) (g:=w.heap.size+1) Ck (.i 0))).trans (Kp.set_lo (i:=2) (g:=w.heap.size+1) Ck (.i 0));have d5:Fh w3 (w.heap.size+2) (.s c f j) t:=by simpa using b4
   have d6:Eb w3 (w.heap.size+2) (.s l m p) v:=by simpa using b5
   have d9:=d5.kp KK Fm Fm;have f0:=d6.kp KK Fm Fm Fm Fm Fm;clear K1 K2 K3 KK d5 d6 b4 b5;go_wp2_with fail;refine tb (.tuple #[.agg #[.s c f j,.s l m p],.agg #[.i 0,.i 0,.i 0]]) (by simp[results,Bwt,go_sem,K,L,N,O,Q]) ?_;exact⟨c,f,j,l,m,p,rfl,fun _=>⟨_,t,v,Ba c9,d9,Ba d3,f0⟩,by repeat (first|(with_reducible exact b3)|(with_reducible refine Bry ?_ Fr _)|(with_reducible refine Bry ?_ Hd _))⟩
  clear b4 b5 c9 d3;go_wp2
  go_region
  all_goals
   go_wp2_with fail;refine tb (.tuple #[.agg #[.s none 0 0,.s none 0 0],.agg #[.i V1,.i V2,.i V3]]) (by simp[results,Bwt,go_sem,K,L,N,O,Q]) ?_;exact⟨none,0,0,none,0,0,rfl,fun h=>(by first|exact False.elim h|exact absurd h (Ba d8)),by repeat (first|(with_reducible exact b3)|(with_reducible refine Bud ?_)|(with_reducible refine Bry ?_ Fr _)|(with_reducible refine Bry ?_ Hd _))⟩
 have f5:(P1 != 0)=true:=by simpa using Z
 have f1:=Bc Z;simp only[ne_eq,Z,not_false_eq_true,Bv7];go_in;go_wp2_with fail;refine(Ba a3 _).mono ?_;rintro e I ⟨c,f,j,l,m,p,rfl,-,A⟩;have a0:=QB b6 A;have c3:=a0.size;have D:=stay A C0;have F:=stay A D0;have K:=Bb D 0;have L:=Bb D 1;obtain⟨N,O,Q⟩:=cl3 F;obtain⟨e0,e1⟩:=fr2 D;obtain⟨g0,g1,g2⟩:=fr3 F;have lC:=Sp D;have lD:=Sp F;simp at K L N O Q;have a4:=Be (I.alloc (O1 c f j l m p)) (O8 P1 B C);have s0:=Bo9 a4;clear Z a7 a3 A;go_wp2
 go_region
 all_goals
  go_wp2_with fail;refine tb (.tuple #[.agg #[.s none 0 0,.s none 0 0],.agg #[.i P1,.i B,.i C]]) (by simp[results,Bwt,go_sem,K,L,N,O,Q,lC,lD]) ?_;exact⟨none,0,0,none,0,0,rfl,fun h=>(by first|exact False.elim h|exact absurd h (Ba f1)),by repeat (first|(with_reducible exact a0)|(with_reducible refine Bud ?_)|(with_reducible refine Bs4 ?_ Fr _)|(with_reducible refine Bry ?_ Hd _))⟩
def Eu (CR:Rd.Mth->Int × Int):Nat->List Rd.Mth->Int × Int × Int
 | _,[]=>(0,0,0)
 | k,m::r=>if (CR m).1≠0 then ((CR m).1,(k:Int),(CR m).2) else Eu CR (k+1) r
def J6 (P V:Int × Int × Int):Int × Int × Int:=if P.1≠0 then P else V
def Bgd{α β:Type}{l:List (α×β)}{r:List α}(h:l.map Prod.fst=r){p:α->Prop}(b:∀x∈r,p x):∀y∈l,p y.1:=fun y c=>b y.1 (by rw[<- h];exact List.mem_map.2 ⟨y,c,rfl⟩)
def Bg2(s:ByteArray)(A:Rd.Mth->Int×Int)(w:TW)(hs:s.size<=maxLen) (a7:(Rf.formed s.data.toList).1=0->∀(f:RFl) (m:RMV) (x:Rf.Mth) b,Bl w b->f.ok b->f.l.map Prod.fst=Rf.given++(Rf.fil s.data.toList).1->f.ms.map Prod.fst=(Rf.fil s.data.toList).2.1->x∈(Rf.fil s.data.toList).2.1->m.is x b f.bb->Calls prog 119 #[f.val,m.val] b fun e d0=>e=.r (.tuple #[.i (A x.m).1,.i (A x.m).2])/\Bl b d0):Calls prog 75 #[.string s] w fun e b=>e=.r (.tuple #[.i (J6 (Rf.formed s.data.toList) (Eu A 0 ((Rf.fil s.data.toList).2.1.map Rf.Mth.m))).1,.i (J6 (Rf.formed s.data.toList) (Eu A 0 ((Rf.fil s.data.toList).2.1.map Rf.Mth.m))).2.1, .i (J6 (Rf.formed s.data.toList) (Eu A 0 ((Rf.fil s.data.toList).2.1.map Rf.Mth.m))).2.2])/\Bl w b:=by
 have a3:=fun w=>Xr s w hs;have b4:=Ac s.data.toList;have d1:=Baa s.data.toList;unfold Yz at a3;generalize J:J6 (Rf.formed s.data.toList) (Eu A 0 ((Rf.fil s.data.toList).2.1.map Rf.Mth.m))=R;unfold J6 at J;generalize Rf.formed s.data.toList=P at *;generalize Rf.fil s.data.toList=Fi at *;obtain⟨P1,P2,P3⟩:=P;obtain⟨cs,t,er⟩:=Fi;simp only at a3 a7 J b4 d1 ⊢;have a8:=Bc a3;have b5:=Bc a7;clear a3 a7;by_cases h1:P1=0
 ·subst h1;rw[Pk Hd]at J;have K:Hid (Eu A 0 ((t.map Rf.Mth.m).drop 0)=R):=J;clear J;go_in;go_wp2_with fail;refine(Ba a8 _).mono ?_;rintro e L ⟨B,n1,D,I,n2,F,rfl,b6,Y⟩;obtain⟨G,j,a4,a9,b0,b1⟩:=b6 (by trivial);obtain⟨xa,xc,Z⟩:=Bh a9.1;simp only[Value.slice.injEq]at Z;obtain⟨rfl,rfl,rfl⟩:=Z;obtain⟨xa,xc,Z⟩:=Bh b1.1;simp only[Value.slice.injEq]at Z;obtain⟨rfl,rfl,rfl⟩:=Z;have b7:G.length=7+cs.length:=by have:=congrArg List.length a4;simp[Rf.given]at this;omega
  have b8:j.length=t.length:=by have:=congrArg List.length b0;simpa using this
  have b9:RFl.ok ⟨B,D,I,F,w.heap.size,G,j⟩ L:=⟨Mc,Mc,Mc,Bgd a4 (p:=fun c=>c.fields.length<=1000) (by
   intro p O;rcases List.mem_append.1 O with O|O
   ·simp[Rf.given]at O;rcases O with rfl|rfl|rfl|rfl|rfl|rfl|rfl<;>simp
   exact b4.2 p O),a9,b1⟩
  have b2:=Y;have d2:=b2.size;have c0:=b9.below (QN (O11 B G.length D I j.length F));have F1:=Be L (O11 B G.length D I j.length F);have c3:=b2.alloc d2 (O11 B G.length D I j.length F);have d3:=Bc a4;have c4:=Bc b0;have f5:=Bc b7;have c5:=Bc b8;clear Y b6 a9 b1 b9 b2 a8 a4 b0 b7 b8;go_wp2
  go_loopw [9] (fun s9 wr=>∃q:Nat,q<=j.length/\s9=.i (q:Int)/\Hid (Eu A q ((t.map Rf.Mth.m).drop q)=R)/\Bl w wr/\wr.heap[L.heap.size]?=some (O11 B G.length D I j.length F)/\RFl.ok ⟨B,D,I,F,w.heap.size,G,j⟩ wr)
   (fun v _=>j.length-(intOf v).toNat)
  case atStart=>exact⟨0,Ck,rfl,K,c3,F1,c0⟩
  case round=>
   clear K c3 F1 c0;obtain⟨q,hq,rfl,K,hB,CF,a5⟩:=hrel;have d4:=hB.size;have lF:=Sp CF;have d5:=a5.2.2.1;simp only at d5;by_cases c6:q<j.length
   ·obtain⟨m,g,hg,z,Ev,hm⟩:=RFl.mth a5 (k:=q) c6;simp only at hg hm;obtain⟨y0,y1,y2,y3,y4,y5,y6,y7,y8,y9,ya,yb⟩:=Oe Ev;have a6:q<t.length:=by have:=Ba c5;omega
    have hx:j[q].1=t[q]:=by
     have:=Ba c4;have h2:(j.map Prod.fst)[q]?=t[q]?:=by rw[this]
     simpa[c6,a6] using h2
    rw[hx]at hm;have hd:(t.map Rf.Mth.m).drop q=t[q].m::(t.map Rf.Mth.m).drop (q+1):=by rw[Brj (by simpa using a6)];simp
    have N:=Ba K;rw[hd,Eu]at N;have d6:=Brn a6;have b3:=Ba b5 (by trivial) ⟨B,D,I,F,w.heap.size,G,j⟩ m t[q] wr.drew hB.drew (a5.below (Brm _ _).drew) (Ba d3) (Ba c4) d6 (hm.below (Brm _ _).drew);generalize t[q]=x at *;generalize A x.m=cr at *;obtain⟨c7,f6⟩:=cr;obtain⟨cl,nm,pa,pl,pc,r1,r2,lo,st,d7,ha,hl,hc,ma,ml,mc,d8,d9⟩:=m;simp only[RFl.val,RMV.val]at b3 N y0 y1 y2 y3 y4 y5 y6 y7 y8 y9 ya yb;subst hg;have c8:=Bc b3;have kb:(q:Int)<(j.length:Int):=Ck;obtain⟨Q,V⟩:=cl2 CF;simp at Q V;clear b3 hd Ev hm K hx a6;have f2:wr.drew.heap[L.heap.size]?=_:=CF;have a0:=N;clear N;go_wp2
    go_region_held3 (fun b=>b.C L.heap.size 0 (.s B G.length D)/\b.C L.heap.size 1 (.s (.p g) j.length F)/\b.C g (q*12) (.i cl)/\b.C g (q*12+1) (.i nm)/\b.C g (q*12+2) (.s pa pl pc)/\b.C g (q*12+3) (.i r1)/\b.C g (q*12+4) (.i r2)/\b.C g (q*12+5) (.i lo)/\b.C g (q*12+6) (.i st)/\b.C g (q*12+7) (.string d7)/\b.C g (q*12+8) (.s ha hl hc)/\b.C g (q*12+9) (.s ma ml mc)/\b.C g (q*12+10) (.i d8)/\b.C g (q*12+11) (.i d9))
     (first|exact⟨Q,V,y0,y1,y2,y3,y4,y5,y6,y7,y8,y9,ya,yb⟩|exact⟨QC h lF Q,QC h lF V,QC h z y0,QC h z y1,QC h z y2,QC h z y3,QC h z y4,QC h z y5,QC h z y6,QC h z y7,QC h z y8,QC h z y9,QC h z ya,QC h z yb⟩)
     (first|(go_at_call 119;refine(Ba c8).mono ?_;rintro e w7 ⟨rfl,h⟩))
    have c9:=hB.drew.trans (h.mono d4);have f3:=stay h f2;have f4:=(a5.below (Brm _ _).drew).below h;clear Q V y0 y1 y2 y3 y4 y5 y6 y7 y8 y9 ya yb h c8;by_cases h0:c7=0
    ·rw[Pk (by simpa using h0)]at a0;have HG:Hid (Eu A (q+1) ((t.map Rf.Mth.m).drop (q+1))=R):=a0;subst h0;clear a0;go_wp2;go_roundw
     case rel=>exact⟨q+1,Ck,Mg,HG,c9,f3,f4⟩
     case measure=>simp[intOf];omega
    rw[Th h0]at a0;obtain rfl:=a0;have f7:(c7 != 0)=true:=by simpa using h0
    clear h0;go_wp2;go_ret3;exact⟨rfl,c9⟩
   have N:=Ba K;rw[Brq (by have:=Ba c5;simp;omega),Eu]at N;obtain rfl:=N;have kb:¬(q:Int)<(j.length:Int):=Ck;obtain⟨Q,V⟩:=cl2 CF;simp at Q V;clear K;go_wp2;go_ret3;exact⟨rfl,hB⟩
 have f8:(P1 != 0)=true:=by simpa using h1
 rw[Th (by simpa using h1)]at J;obtain rfl:=J;clear h1 b5;go_in;go_wp2_with fail;refine(Ba a8 _).mono ?_;rintro e L ⟨B,n1,D,I,n2,F,rfl,-,Y⟩;go_wp2;go_ret3;exact⟨rfl,Y.alloc Y.size _⟩
def Hy (T:TI)(x:Bf):Prop:=(∀t∈x.locals,Tr.Arg T t.1 t.2)/\∀t∈x.stack,Tr.Arg T t.1 t.2
def Bcl(T:TI)(a b:TP)(h:a.length=b.length):Ey T a b=Hw T a b:=by
 unfold Ey;rw[Pk Ck,h,Bus,List.drop_zero]
def Tf{z:TI}(e:Tr.Ok z){x y:Bf}(f:Hy z x)(h:Hy z y):Cj z x y=Km z x y:=by
 unfold Cj Km L4;by_cases b:x.stack.length=y.stack.length
 ·rw[Pk (fun g=>g b),Th b];by_cases c:x.locals.length=y.locals.length;·rw[Pk (fun g=>g c),Th c,Bcl z _ _ c,Bcl z _ _ b,Ni e _ _ f.1 h.1,Ni e _ _ f.2 h.2]
  rw[Th c,Pk c];rfl
 rw[Th b,Pk b,Bool.and_false]
def Bly(T:TI)(b:List Rd.Cls)(c:7<=b.length)(e:∀i,i<7->(b.getD i ⟨0,[]⟩).fields=[])(f:List Rd.Mth)(g:Int×Int)(op:Int)(n:Nat)(h:op=17\/op=18->n<(Rf.fieldsTo T b (b.length-7)).length):Hs (b.map Rd.Cls.fields) f g op (n:Int)=Co (Rf.fieldsTo T b (b.length-7)) f g op (n:Int):=by
 unfold Hs Co;by_cases j:op=17;·subst j;rw[Yx T b c e n (h (.inl rfl)),Brx]
 by_cases l:op=18;·subst l;rw[Yx T b c e n (h (.inr rfl)),Brx]
 simp only[j,l,Btv]
def Bkc(T:TI)(b:List Rd.Cls)(f:7<=b.length)(g:∀i,i<7->(b.getD i ⟨0,[]⟩).fields=[])(c:List Rd.Mth)(op:Int)(n:Nat)(h:op=17->n<(Rf.fieldsTo T b (b.length-7)).length):Gm (b.map Rd.Cls.fields) c op (n:Int)=Dp (Rf.fieldsTo T b (b.length-7)) c op (n:Int):=by
 unfold Gm Dp;by_cases e:op=17;·subst e;rw[Yx T b f g n (h rfl),Brx];simp
 simp only[e,Btv];have:(op=0\/op=24\/op=7\/op=8\/op=9\/op=10)<->(op=0\/op=7\/op=8\/op=9\/op=10\/op=24):=Ck;simp only[this]
def Wx{z:TI}{mp:Int->Option Bf}{x:Bf}{c:Int}(h:mp c=none):Ic z mp x c=true:=by unfold Ic;rw[h];rfl
def Pi{z:TI}(e:Tr.Ok z){mp:Int->Option Bf}{x b:Bf}{c:Int}(h:mp c=some b)(f:Hy z x)(g:Hy z b):Ic z mp x c=Cj z x b:=by
 unfold Ic;rw[h,Tf e f g];rfl
def Bbb{z:TI}{mp:Int->Option Bf}{x:Bf}{c:Int}(h:mp c=none):Jj z mp x c=8:=by unfold Jj;rw[h];rfl
def Bdr{z:TI}(e:Tr.Ok z){mp:Int->Option Bf}{x b:Bf}{c:Int}(h:mp c=some b)(f:Hy z x)(g:Hy z b)(i:Cj z x b=false):Jj z mp x c=9:=by
 unfold Jj;rw[Pk (by rw[h];simp),Th (by rw[Pi e h f g];exact i)]
def Bbc{z:TI}(e:Tr.Ok z){mp:Int->Option Bf}{x b:Bf}{c:Int}(h:mp c=some b)(f:Hy z x)(g:Hy z b)(i:Cj z x b=true):Jj z mp x c=0:=by
 unfold Jj;rw[Pk (by rw[h];simp),Pk (by rw[Pi e h f g,i];simp)]
def X8{z:TI}(i:Tr.Ok z)(mp:Int->Option Bf)(j:∀q b,mp q=some b->Hy z b)(p:Int)(c:TP)(s:∀t∈c,Tr.Arg z t.1 t.2):∀l:List Rd.Hnd,(∀h∈l,Tr.Arg z 3 h.cl) ->
  Gj z mp p c l=Fb z mp p c l
 | [],_=>rfl
 | h::r,hh=>by
  have C:=X8 i mp j p c s r (fun x g=>hh x (by simp[g]));rw[Gj,Fb,C];unfold Fo;by_cases v:p<h.frm;·have e:decide (h.frm<=p)=false:=Fr;rw[e,Bt6,Th rfl,Th v]
  have e:decide (h.frm<=p)=true:=Fr;rw[e,Bts,Pk v];by_cases A:h.til<=p;·have m:decide (p<h.til)=false:=Fr;rw[m,Th rfl,Th A]
  have m:decide (p<h.til)=true:=Fr;rw[m,Pk Hd,Pk A];cases f:mp h.target with
  | none =>
   rw[Bbb f,Th (show (8:Int)≠0 by decide),Th (show (none:Option Bf).isSome=false from rfl)]
  | some b =>
   have g:Hy z ⟨c,[(3,h.cl)]⟩:=⟨s,fun t D=>by obtain rfl:=List.mem_singleton.1 D;exact hh h Hd⟩;have F:Cu (some b)=b:=rfl;rw[F,Pk (show ¬(some b).isSome=false by simp)];cases B:Cj z ⟨c,[(3,h.cl)]⟩ b with
   | false=>rw[Bdr i f g (j _ _ f) B,Th (show (9:Int)≠0 by decide),Th rfl]
   | true=>rw[Bbc i f g (j _ _ f) B,Pk (show ¬(0:Int)≠0 by decide),Pk (show ¬true=false by decide)]
def Bo1{z:TI}(l:Tr.Ok z)(mp:Int->Option Bf)(m:∀q b,mp q=some b->Hy z b)(H:Int)(B:Option Bf)(A:∀y,B=some y->Hy z y)(op n f g:Int):Pz z mp H B op n f g=J1 z mp H B op n f g:=by
 unfold Pz J1;by_cases h:H≠0;·rw[Th h,Th h]
 rw[Pk h,Pk h];cases B with
 | none=>rfl
 | some y =>
  have p:=A y rfl;have e:Cu (some y)=y:=rfl;rw[Pk (show ¬(some y).isSome=false by simp),Pk (show ¬(some y).isSome=false by simp),e];have v:(if Dl op=false then 0 else P4 z mp g y f)=(if Dl op=false then 0 else if g<=f then 11 else if (mp f).isSome=true/\Cj z y (Cu (mp f))=false then 9 else 0):=by
   by_cases i:Dl op=false;·rw[Th i,Th i]
   rw[Pk i,Pk i];unfold P4;by_cases j:g<=f;·rw[Th j,Th j]
   rw[Pk j,Pk j];cases c:mp f with
   | none=>rw[Wx c,Pk Hd,Pk Hd]
   | some b =>
    have s:Cu (some b)=b:=rfl;rw[Pi l c p (m _ _ c),s];cases t:Cj z y b with
    | false=>rw[Th rfl,Th ⟨rfl,rfl⟩]
    | true=>rw[Pk Hd,Pk Hd]
  cases C:Ei op with
  | false=>rw[Pk (show ¬(false=true/\Jj z mp y n≠0) by simp),Pk (show ¬(false=true/\(mp n).isSome=false) by simp),Pk (show ¬(false=true/\Cj z y (Cu (mp n))=false) by simp)];exact v
  | true =>
   cases c:mp n with
   | none=>rw[Bbb c,Th (show true=true/\(8:Int)≠0 by decide),Th (show true=true/\(none:Option Bf).isSome=false from ⟨rfl,rfl⟩)]
   | some b =>
    have s:Cu (some b)=b:=rfl;rw[s];cases t:Cj z y b with
    | false=>rw[Bdr l c p (m _ _ c) t,Th (show true=true/\(9:Int)≠0 by decide),Pk (show ¬(true=true/\(some b).isSome=false) by simp),Th (show true=true/\false=false from ⟨rfl,rfl⟩)]
    | true =>
     rw[Bbc l c p (m _ _ c) t,Pk (show ¬(true=true/\(0:Int)≠0) by decide),Pk (show ¬(true=true/\(some b).isSome=false) by simp),Pk (show ¬(true=true/\true=false) by decide)];exact v
def Zf(c:TI):∀(k p:Nat),(∀q∈Cd.starts c k p,p<=q)/\(Cd.starts c k p).Pairwise (· < ·)
 | 0,p=>by simp[Cd.starts]
 | k+1,p=>by
  have g:=Cd.wd_bd (c.getD p 0);obtain⟨e,f⟩:=Zf c k (p+Cd.wd (c.getD p 0));unfold Cd.starts
  split
  ·refine⟨fun q b=>?_,List.pairwise_cons.2 ⟨fun q b=>?_,f⟩⟩
   ·rcases List.mem_cons.1 b with rfl|b
    ·exact Bru _
    have:=e q b;omega
   have:=e q b;omega
  simp
def Baw(c:TI):(Cd.places c).Pairwise (· < ·):=(Zf c c.length 0).2
def Bai(mp:Int->Option Bf)(j:Nat->Bf->Option Bf)(b:Nat->Bf->Int)(c:TI)(l:Cd.Ins->Bf->Int)(m:Cd.Ins->Bf->Option Bf)(P:Bf->Prop)(v:∀q z,mp q=some z->P z) :
  ∀(s:List Nat),(∀p∈s,∀x,P x->l (Cd.insAt c p) x=b p x/\(b p x=0->∃y,j p x=some y/\m (Cd.insAt c p) x=some y/\P y))->∀o:Option Bf,(∀x,o=some x->P x) ->
   Ms mp l m (s.map (Cd.insAt c)) o=Rh (fun p=>mp (p:Int)) j (fun p=>Dl (c.getD p 0)) b s o
 | [],_,_,_=>rfl
 | p::r,h,o,ho=>by
  have A:=Bai mp j b c l m P v r (fun q e=>h q (by simp[e]));rw[Bsw,Ms,Rh];have B:(Cd.insAt c p).place=(p:Int):=rfl;have C:(Cd.insAt c p).op=c.getD p 0:=rfl;rw[B,C];cases f:(mp (p:Int)).or o with
  | none=>exact A none (fun x D=>by cases D)
  | some x =>
   have F:P x:=by
    cases e:mp (p:Int) with
    | none=>rw[e]at f;exact ho x f
    | some z=>rw[e]at f;obtain rfl:=Option.some.inj f;exact v _ _ e
   obtain⟨G,g2⟩:=h p Hd x F;simp only;rw[G];by_cases i:b p x=0
   ·rw[Pk (show ¬b p x≠0 from fun g=>g i),Pk (show ¬b p x≠0 from fun g=>g i)];obtain⟨y,I,J,K⟩:=g2 i;have L:J0 (fun p=>mp (p:Int)) j (fun p=>Dl (c.getD p 0)) p o=if Dl (c.getD p 0)=true then some y else none:=by
     unfold J0;simp only;rw[f];simp only[Bt7];rw[I];rfl
    rw[L,J];refine A _ (fun N t=>?_)
    split at t
    ·obtain rfl:=Option.some.inj t;exact K
    cases t
   rw[Th (show b p x≠0 from i),Th (show b p x≠0 from i)]
def Bd9{z:TI}(A:Tr.Ok z)(mp:Int->Option Bf)(g:Nat->Bf->Option Bf)(f:Nat->Bf->Int)(c:TI)(i:Cd.Ins->Bf->Int)(j:Cd.Ins->Bf->Option Bf)(P:Bf->Prop)(m:∀x,P x->Hy z x)(s:∀q b,mp q=some b->P b)(e:Bf)(t:P e) (h:∀p∈Cd.places c,∀x,P x->i (Cd.insAt c p) x=f p x/\(f p x=0->∃y,g p x=some y/\j (Cd.insAt c p) x=some y/\P y)):P8 z mp i j (Cd.insts c) e=La z (mp 0) e (fun q=>Gu (fun p=>mp (p:Int)) g (fun p=>Dl (c.getD p 0)) q (Cd.places c) (some e)) f (Cd.places c):=by
 unfold P8 La Cd.insts;have v:=Wq (fun p=>mp (p:Int)) g (fun p=>Dl (c.getD p 0)) f (some e) (Cd.places c) [] (by simpa using Baw c);simp only[Btz,List.foldl_nil]at v;rw[v,Bai mp g f c i j P s (Cd.places c) h (some e) (fun x B=>by obtain rfl:=Option.some.inj B;exact t)];cases l:mp 0 with
 | none=>rw[Wx l,Pk (show ¬true=false by decide),Pk (show ¬((none:Option Bf).isSome=true/\Cj z e (Cu none)=false) by simp)]
 | some b =>
  have C:Cu (some b)=b:=rfl;rw[Pi A l (m _ t) (m _ (s _ _ l)),C];cases D:Cj z e b with
  | false=>rw[Th rfl,Th (show (some b).isSome=true/\false=false from ⟨rfl,rfl⟩)]
  | true=>rw[Pk (show ¬true=false by decide),Pk (show ¬((some b).isSome=true/\true=false) by simp)]
def Ab(f g:Rd.Mth->Int×Int):∀(b:List Rd.Mth) (k:Nat),(∀m∈b,f m=g m)->Ff f k b=Eu g k b
 | [],_,_=>rfl
 | m::r,k,h=>by rw[Ff,Eu,h m Hd,Ab f g r (k+1) (fun x c=>h x (by simp[c]))]
def Bbg{z:TI}{i:List Rd.Mth}:∀(l:List Rd.Mth) (k:Nat),Gt z i k l<0->∀m∈l,∃j,Hv z i j m=true
 | [],_,_=>Hd
 | m::r,k,h=>by
  rw[Gt]at h;by_cases b:Hv z i k m=false;·rw[Th b]at h;omega
  rw[Pk b]at h;intro x c;rcases List.mem_cons.1 c with rfl|c
  ·exact⟨k,by simpa using b⟩
  exact Bbg r _ h x c
def Ah{z:TI}{c:Int}{e:TI}:∀(l:List Rd.Mth) (k:Nat),(Je z c e k l).1=0->∀m∈l,(Mu z c e m).1=0
 | [],_,_=>Hd
 | m::r,k,h=>by
  rw[Je]at h;by_cases b:(Mu z c e m).1≠0;·rw[Th b]at h;exact absurd h b
  rw[Pk b]at h;intro x f;rcases List.mem_cons.1 f with rfl|f
  ·simpa using b
  exact Ah r _ h x f
def Bdu{z:TI}:∀(l:List Rd.Cls) (k:Nat),(Tr.inCl z k l).1=0->∀c∈l,Tr.allPlainB z c.fields=true
 | [],_,_=>Hd
 | c::r,k,h=>by
  rw[Tr.inCl]at h;by_cases f:7+(k:Int)<=c.above;·rw[Th f]at h;simp at h
  rw[Pk f]at h;by_cases b:Tr.allPlainB z c.fields=false;·rw[Th b]at h;simp at h
  rw[Pk b]at h;intro x e;rcases List.mem_cons.1 e with rfl|e
  ·simpa using b
  exact Bdu r _ h x e
def Yb{α:Type}{f:α->Bool}:∀(l:List α) (k:Nat),Cd.firstIx f k l<0->∀x∈l,f x=false
 | [],_,_=>Hd
 | x::r,k,h=>by
  rw[Cd.firstIx]at h;by_cases b:f x=true;·rw[Th b]at h;omega
  rw[Pk b]at h;intro y c;rcases List.mem_cons.1 c with rfl|c
  ·simpa using b
  exact Yb r _ h y c
def Xy{z c:TI}:∀(l:List Rd.Mp) (i:Nat) (b:Int),Cd.mapsBad z c i b l<0->∀x∈l,Cd.frAll z c x.locals=true/\Cd.frAll z c x.stack=true/\Cd.begB c x.place=true
 | [],_,_,_=>Hd
 | m::r,i,b,h=>by
  rw[Cd.mapsBad]at h;by_cases e:Cd.begB c m.place=false;·rw[Th e]at h;omega
  rw[Pk e]at h;by_cases p:m.place<=b;·rw[Th p]at h;omega
  rw[Pk p]at h;by_cases f:Cd.frAll z c m.locals=false;·rw[Th f]at h;omega
  rw[Pk f]at h;by_cases g:Cd.frAll z c m.stack=false;·rw[Th g]at h;omega
  rw[Pk g]at h;intro y j;rcases List.mem_cons.1 j with rfl|j
  ·exact⟨by simpa using f,by simpa using g,by simpa using e⟩
  exact Xy r _ _ h y j
structure W6(m:Rd.Mth):Prop where
 lo:0<=m.locals/\m.locals<=8
 st:0<=m.stack/\m.stack<=8
 ml:∀q∈m.maps,q.locals.length=m.locals.toNat/\(q.stack.length:Int)<=m.stack
 c255:∀x∈m.code,x<=255
def Bqj(s:TB)(L H:Int)(b:0<=H)(t:Rd.St):(Rd.mp s L H t).1.locals.length=L.toNat/\((Rd.mp s L H t).1.stack.length:Int)<=H:=by
 simp only[Rd.mp,Rd.tys,Rd.rep_len];have:=Rd.cn_bd s 0 H (Rd.rep (Rd.ty s) L.toNat (Rd.nx s t).2).2 b;exact⟨trivial,Ck⟩
def Bqd(s:TB)(t:Rd.St):W6 (Rd.mth s t).1:=by
 simp only[Rd.mth];generalize (Rd.nx s (Rd.nx s t).2).2=e;generalize Rd.cn s 0 4 e=p at *;generalize (Rd.tys s p.1.toNat p.2).2=f;generalize (Rd.ty s f).2=b;have g:=Rd.cn_bd s 0 8 b Ck;generalize Rd.cn s 0 8 b=l at *;have c:=Rd.cn_bd s 0 8 l.2 Ck;generalize Rd.cn s 0 8 l.2=h at *;refine⟨g,c,?_,by simp only[Rd.codes];exact Ot (fun x:Int=>x<=255) _ (fun t=>(Rd.nx_bd s t).2) _ _⟩;simp only[Rd.mps];exact Ot (fun q:Rd.Mp=>q.locals.length=l.1.toNat/\(q.stack.length:Int)<=h.1) _ (fun t=>Bqj s l.1 h.1 c.1 t) _ _
def Bon(s:TB):∀m∈(Rd.read s).1.methods,W6 m:=by
 unfold Rd.read
 split
 ·simp
 split
 ·simp
 simp only[Rd.fil];exact Ot W6 _ (fun t=>Bqd s t) _ _
structure Pa(T:List Int)(nf:Int)(ms:List Rd.Mth)(m:Rd.Mth):Prop where
 bd:Rz m
 rd:W6 m
 unread:Cd.unread m.code<0
 arg:∀p∈Cd.places m.code,Cd.argAt T nf (ms.map Rd.Mth.cl) m.locals m.code p=true
 hnd:∀h∈m.handlers,Cd.hndBad T m.code h=false
 map:∀q∈m.maps,Cd.frAll T m.code q.locals=true/\Cd.frAll T m.code q.stack=true/\Cd.begB m.code q.place=true
 cl:m.cl=255\/Tr.hasB T m.cl=true
 res:Tr.plainB T m.result.1 m.result.2=true\/m.result=(0,0)
 ps:Tr.allPlainB T m.params=true
 own:((Iy m.cl m.params).length:Int)<=m.locals
def Bk6{z:TI}{c:Int}{i:List Rd.Mth}{K:Rd.Mth}(t:Rz K)(v:W6 K)(A:∃j,Hv z i j K=true)(h:(Mu z c (i.map Rd.Mth.cl) K).1=0):Pa z c i K:=by
 unfold Mu at h;by_cases e:0<=Cd.badCode z c (i.map Rd.Mth.cl) K.locals K.code;·rw[Th e]at h;simp at h
 rw[Pk e]at h;by_cases s:0<=Cd.firstIx (Cd.hndBad z K.code) 0 K.handlers;·rw[Th s]at h;simp at h
 rw[Pk s]at h;by_cases B:0<=Cd.mapsBad z K.code 0 (-1) K.maps;·rw[Th B]at h;simp at h
 unfold Cd.badCode at e;have l:Cd.unread K.code<0:=by
  by_cases l:0<=Cd.unread K.code;·rw[Th l]at e;exact absurd l e
  omega
 rw[Pk Ck]at e;obtain⟨j,b⟩:=A;unfold Hv On at b;by_cases f:Vf z K.cl K.name K.result.1 K.result.2=true;·rw[Th f]at b;simp at b
 rw[Pk f]at b;by_cases g2:Tr.allPlainB z K.params=false;·rw[Th g2]at b;simp at b
 rw[Pk g2]at b;by_cases g3:Lv K.cl K.locals K.params=true;·rw[Th g3]at b;simp at b
 unfold Vf at f;unfold Lv at g3;simp only[Bwj,Bsq,Bsv,Bool.not_eq_true',Bti,not_or,not_and]at f g3;have g4:Cd.firstIx (Cd.hndBad z K.code) 0 K.handlers<0:=Ck;have g5:Cd.mapsBad z K.code 0 (-1) K.maps<0:=Ck;have g6:Cd.first (Cd.badArg z c (i.map Rd.Mth.cl) K.locals K.code) (Cd.places K.code)<0:=Ck
 refine⟨t,v,l,?_,Yb _ _ g4,Xy _ _ _ g5,?_,?_,by simpa using g2,?_⟩
 ·intro p q;have:=Wy g6 p q;unfold Cd.badArg at this;simpa using this
 ·by_cases g:K.cl=255;·exact .inl g
  have:=f.1;rw[Pk g]at this;simp at this;exact .inr this.1
 ·by_cases q:Tr.plainB z K.result.1 K.result.2=true;·exact .inl q
  have:=f.2 (by simpa using q);exact .inr (by simpa[Prod.ext_iff] using this)
 unfold Iy;by_cases g:K.cl=255;·rw[Th g];simp;omega
 rw[Pk g];have:=g3.2 g;simp;omega
structure Kn(cs:List Rd.Cls)(ms:List Rd.Mth):Prop where
 ok:Tr.Ok (Tr.tree cs)
 l6:cs.length<=6
 m6:ms.length<=6
 fn:∀c∈cs,c.fields.length<=1000
 fl:∀c∈cs,Tr.allPlainB (Tr.tree cs) c.fields=true
 mt:∀m∈ms,Pa (Tr.tree cs) (Cd.fieldSum cs:Int) ms m
def Kb(s:TB)(h:(Rf.formed s).1=0):Kn (Rd.read s).1.classes (Rd.read s).1.methods/\(Rf.fil s).1=(Rd.read s).1.classes/\(Rf.fil s).2.1.map Rf.Mth.m=(Rd.read s).1.methods:=by
 rw[<- Rn]at h;obtain⟨l,p⟩:=Aw s;obtain⟨q,f⟩:=Yo s;have t:=Bon s;unfold Gx at h;by_cases c:(Rd.read s).2≠0;·rw[Th c]at h;exact absurd h c
 rw[Pk c]at h;obtain⟨v,z⟩:=(Yp s).2 (by simpa using c);refine⟨?_,v.symm,z.symm⟩;unfold Lo at h;by_cases e:(Tr.inCl (Tr.tree (Rd.read s).1.classes) 0 (Rd.read s).1.classes).1≠0;·rw[Th e]at h;exact absurd h e
 rw[Pk e]at h;have g:(Tr.inCl (Tr.tree (Rd.read s).1.classes) 0 (Rd.read s).1.classes).1=0:=by simpa using e
 have i:=Bfq _ (Bcw s) g;have C:=Ie (Rd.read s).1.classes;rw[Bfx i Ck Ck _ _ (fun o A=>(f o A).cl) (fun m b=>(f m b).code0)]at h;unfold Rg at h;by_cases j:0<=Gt (Tr.tree (Rd.read s).1.classes) (Rd.read s).1.methods 0 (Rd.read s).1.methods;·rw[Th j]at h;simp at h
 rw[Pk j]at h;have B:Gt (Tr.tree (Rd.read s).1.classes) (Rd.read s).1.methods 0 (Rd.read s).1.methods<0:=Ck;exact⟨i,l,q,p,Bdu _ _ g,fun m b=>Bk6 (f m b) (t m b) (Bbg _ _ B m b) (Ah _ _ h m b)⟩
def Cd.atI(c:TI)(i:Int):Int:=if i<0 then -1 else if (c.length:Int)<=i then -1 else c.getD i.toNat 0
def Ll(s:ByteArray)(i:Int):Rf.at' s.data.toList i=Cd.atI (Ca s) i:=by
 unfold Rf.at' Cd.atI;rw[He];have c:s.data.toList.length=s.size:=Hd;rw[c];by_cases h:i<0;·rw[Th h,Th h]
 rw[Pk h,Pk h];by_cases b:(s.size:Int)<=i;·rw[Th b,Th b]
 rw[Pk b,Pk b];unfold Ca;simp only[Vm,Bsf];have:i.toNat<s.data.toList.length:=Ck;rw[Brl this];rfl
def Xd(c:TI)(p:Nat):Cd.nAt c p=Cd.atI c ((p:Int)+1):=by
 unfold Cd.nAt Cd.atI;rw[Pk (show ¬(p:Int)+1<0 by omega)];by_cases h:p+1<c.length
 ·rw[Th h,Pk Ck]
  congr 1
 rw[Pk h,Th Ck]
def Nw{z:TI}(h:Cd.unread z<0):∀p∈Cd.places z,z.getD p 0<=25/\p+Cd.wd (z.getD p 0)<=z.length:=by
 intro p b;have:=Wy h p b;unfold Cd.noRead at this;simp at this;simpa using this
def Vv{c:TI}{p:Nat}(h:p+Cd.wd (c.getD p 0)<=c.length)(b:Cd.wd (c.getD p 0)=2):(Cd.insAt c p).n=Cd.atI c ((p:Int)+1)/\Cd.atI c ((p:Int)+1)=c.getD (p+1) 0:=by
 have:Cd.atI c ((p:Int)+1)=c.getD (p+1) 0:=by
  rw[<- Xd];unfold Cd.nAt;rw[Th Ck]
 refine⟨?_,this⟩;rw[this];unfold Cd.insAt;simp only;rw[Th b]
def Bou{z:TI}{F:List Rf.Fld}{i:List Rd.Mth}{e:Int->List (Int×Int)}{arg:Int->Int}{C:Int×Int}{c op:Int}{x:Bf}(h:Cd.wd op=1)(n b:Int):D7 z F i e arg C c op n x=D7 z F i e arg C c op b x:=by
 have l:¬(op=0\/op=2\/op=3\/(11<=op/\op<=21)):=by
  intro g;unfold Cd.wd at h;rw[Th g]at h;omega
 have f:Co F i C op n=Co F i C op b:=by
  unfold Co;simp only[show op≠17 by omega,show op≠18 by omega,show op≠20 by omega,show op≠21 by omega,Btv]
 have j:Dp F i op n=Dp F i op b:=by
  unfold Dp;simp only[show op≠17 by omega,show op≠19 by omega,show op≠20 by omega,show op≠21 by omega,Btv,false_or]
 unfold D7;rw[f,j];simp only[show op≠2 by omega,show op≠3 by omega,show op≠16 by omega,Btv]
def Bqn{z:TI}{mp:Int->Option Bf}{H:Int}{R:Option Bf}{op b c:Int}(h:Cd.wd op=1)(n f:Int):J1 z mp H R op n b c=J1 z mp H R op f b c:=by
 have i:¬(op=0\/op=2\/op=3\/(11<=op/\op<=21)):=by
  intro g;unfold Cd.wd at h;rw[Th g]at h;omega
 have e:Ei op=false:=by unfold Ei;simp;omega
 unfold J1;simp only[e,Bool.false_eq_true,false_and,Btv]
def Kh{z:TI}{n:Int}:Tr.hasB z n=true<->0<=n/\n<(z.length:Int):=by unfold Tr.hasB;simp
def Ha{z:TI}{C:Int×Int}(h:Tr.plainB z C.1 C.2=true):Tr.Arg z C.1 C.2/\C.1≠4:=by
 unfold Tr.plainB at h;by_cases b:C.1=1;·rw[Th b]at h;exact⟨.inr (.inl ⟨b,by simpa using h⟩),Ck⟩
 rw[Pk b]at h;by_cases c:C.1=3;·rw[Th c]at h;exact⟨.inr (.inr (.inr (.inl ⟨c,Kh.1 h⟩))),Ck⟩
 rw[Pk c]at h;simp at h
def Yr{z:TI}{b:Int->Prop}{C:Int×Int}(h:Tr.plainB z C.1 C.2=true):I9 z b C:=⟨(Ha h).1,fun g=>absurd g (Ha h).2⟩
def Nn{z:TI}{q:TP}(h:Tr.allPlainB z q=true):∀t∈q,Tr.plainB z t.1 t.2=true:=fun t b=>by
 unfold Tr.allPlainB at h;exact List.all_eq_true.1 h t b
def Us{z:TI}{n:Int}(h:0<=n/\n<(z.length:Int)):Tr.Arg z 3 n:=.inr (.inr (.inr (.inl ⟨rfl,h⟩)))
def Bbi{z:TI}{r:Int×Int}(h:Tr.plainB z r.1 r.2=true\/r=(0,0)):∀t∈Ds r,Tr.plainB z t.1 t.2=true:=by
 intro t b;unfold Ds at b
 split at b
 ·simp at b
 rename_i c;obtain rfl:=List.mem_singleton.1 b;rcases h with h|h
 ·exact h
 rw[h]at c;exact absurd rfl c
def Ba2{c B:Int}{own:TP}:∀(k:Nat),k<=own.length->∀f∈Rf.ownTo c B own k,f.owner=c/\f.t∈own
 | 0,_=>by simp[Rf.ownTo]
 | k+1,h=>by
  intro f b;rw[Rf.ownTo]at b;rcases List.mem_append.1 b with b|b
  ·exact Ba2 k Ck f b
  obtain rfl:=List.mem_singleton.1 b;exact⟨rfl,Hf Ck⟩
def Ou:Rf.given.length=7:=rfl
def Bnc(b:List Rd.Cls)(j:Nat):(Rf.given++b).getD (7+j) ⟨0,[]⟩=b.getD j ⟨0,[]⟩:=by
 rw[Vm,Br0 (by rw[Ou];omega),Ou,<- Vm]
 congr 1;omega
def Nf(b:List Rd.Cls)(i:Nat)(h:i<7):((Rf.given++b).getD i ⟨0,[]⟩).fields=[]:=by
 rw[Vm,Br6 (by rw[Ou];omega)];have:i=0\/i=1\/i=2\/i=3\/i=4\/i=5\/i=6:=Ck;rcases this with rfl|rfl|rfl|rfl|rfl|rfl|rfl<;>rfl
def Bbo{z:TI}{m:List Rd.Cls}(h:∀c∈m,Tr.allPlainB z c.fields=true)(d:Nat):∀t∈((Rf.given++m).getD d ⟨0,[]⟩).fields,Tr.plainB z t.1 t.2=true:=by
 by_cases b:d<7;·rw[Nf m d b];simp
 obtain⟨j,rfl⟩:∃j,d=7+j:=⟨d-7,Ck⟩;rw[Bnc];by_cases e:j<m.length;·exact Nn (h _ (Hf e))
 rw[Vm,Bs3 Ck];simp
def Ad{z:TI}{m:List Rd.Cls}(h:∀c∈m,Tr.allPlainB z c.fields=true):∀(j:Nat),∀f∈Rf.fieldsTo z (Rf.given++m) j,(7<=f.owner/\f.owner<7+(j:Int))/\Tr.plainB z f.t.1 f.t.2=true
 | 0=>by simp[Rf.fieldsTo]
 | j+1=>by
  intro f e;rw[Rf.fieldsTo]at e;rcases List.mem_append.1 e with e|e
  ·obtain⟨a,b⟩:=Ad h j f e;exact⟨Ck,b⟩
  unfold Rf.ownOf at e;obtain⟨a,b⟩:=Ba2 _ (Bru _) f e;exact⟨Ck,Bbo h _ _ b⟩
def Ub{z:TI}{m:List Rd.Cls}(h:∀c∈m,Tr.allPlainB z c.fields=true)(c:Int):∀(d:Nat),∀t∈Rf.allTo z (Rf.given++m) c d,Tr.plainB z t.1 t.2=true
 | 0=>by simp[Rf.allTo]
 | d+1=>by
  intro t b;rw[Rf.allTo]at b;rcases List.mem_append.1 b with b|b
  ·exact Ub h c d t b
  split at b
  ·exact Bbo h d t b
  simp at b
def W9 (c:TI)(q:Int):Prop:=Cd.begB c q=true/\c.getD q.toNat 0=15
def Io (T:TI)(m:Rd.Mth)(x:Bf):Prop:=As T m.locals.toNat m.stack (W9 m.code) x
def Cp (cs:List Rd.Cls):List Rf.Fld:=Rf.fieldsTo (Tr.tree cs) (Rf.given++cs) cs.length
def D9 (m:Rd.Mth)(q:Int):Option Bf:=Gc q m.maps
def Er (m:Rd.Mth):Bf:=Lg m.cl m.params m.locals.toNat
def Ec (cs:List Rd.Cls)(ms:List Rd.Mth)(m:Rd.Mth)(p:Nat)(x:Bf):Option Bf :=
 Es m.stack (D7 (Tr.tree cs) (Cp cs) ms (fun c=>Rf.all (Tr.tree cs) (Rf.given++cs) c.toNat) (fun q=>Cd.atI m.code (q+1)) m.result (p:Int) (m.code.getD p 0) (Cd.atI m.code ((p:Int)+1)) x)
def Nt (cs:List Rd.Cls)(ms:List Rd.Mth)(m:Rd.Mth)(p:Nat)(x:Bf):Int :=
 J1 (Tr.tree cs) (D9 m) (Fb (Tr.tree cs) (D9 m) (p:Int) x.locals m.handlers) (Ec cs ms m p x) (m.code.getD p 0) (Cd.atI m.code ((p:Int)+1)) ((p+Cd.wd (m.code.getD p 0):Nat):Int) (m.code.length:Int)
def Gs (cs:List Rd.Cls)(ms:List Rd.Mth)(m:Rd.Mth)(q:Nat):Option Bf :=
 Gu (fun p=>D9 m (p:Int)) (Ec cs ms m) (fun p=>Dl (m.code.getD p 0)) q (Cd.places m.code) (some (Er m))
def Hk (cs:List Rd.Cls)(ms:List Rd.Mth)(m:Rd.Mth):Int × Int :=
 La (Tr.tree cs) (D9 m 0) (Er m) (Gs cs ms m) (Nt cs ms m) (Cd.places m.code)
def Mn (cs:List Rd.Cls):List (List (Int × Int)):=(Rf.given++cs).map Rd.Cls.fields
def It (cs:List Rd.Cls)(ms:List Rd.Mth)(m:Rd.Mth)(i:Cd.Ins)(x:Bf):Option Bf :=
 L3 (Tr.tree cs) m.stack (Hs (Mn cs) ms m.result i.op i.n) (Gm (Mn cs) ms i.op i.n) (Dk (Tr.tree cs) (Mn cs) i.n) (J4 (Cd.readL m.code) i.n) i.place i.op i.n x
def Ol (cs:List Rd.Cls)(ms:List Rd.Mth)(m:Rd.Mth)(i:Cd.Ins)(x:Bf):Int :=
 Pz (Tr.tree cs) (D9 m) (Gj (Tr.tree cs) (D9 m) i.place x.locals m.handlers) (It cs ms m i x) i.op i.n ((i.place.toNat+Cd.wd i.op:Nat):Int) (m.code.length:Int)
def Ld (cs:List Rd.Cls)(ms:List Rd.Mth)(m:Rd.Mth):Int × Int :=
 P8 (Tr.tree cs) (D9 m) (Ol cs ms m) (It cs ms m) (Cd.readL m.code) (Er m)
def Lh{z:TI}{K:Rd.Mth}{x:Bf}(h:Io z K x):Hy z x:=⟨fun t b=>(h.tl t b).1,fun t b=>(h.ts t b).1⟩
def Bj7{l:List Rd.Mp}{c:Int}{z:Bf}(h:Gc c l=some z):∃y∈l,z=⟨y.locals,y.stack⟩:=by
 induction l with
 | nil=>simp[Gc]at h
 | cons y r ih =>
  rw[Gc]at h
  split at h
  ·exact⟨y,Hd,(Option.some.inj h).symm⟩
  obtain⟨b,f,e⟩:=ih h;exact⟨b,by simp[f],e⟩
def Bkr{z c:TI}(i:c.length<=120){C:Int×Int}(h:Cd.framed z c C.1 C.2=true):I9 z (W9 c) C:=by
 unfold Cd.framed at h;by_cases b:C.1=0\/C.1=1\/C.1=2
 ·rw[Th b]at h;have:C.2=0:=by simpa using h
  refine⟨?_,fun g=>Ck⟩;rcases b with b|b | b
  ·exact .inl ⟨b,this⟩
  ·exact .inr (.inl ⟨b,this⟩)
  exact .inr (.inr (.inl ⟨b,this⟩))
 rw[Pk b]at h;by_cases e:C.1=3;·rw[Th e]at h;exact⟨by rw[e];exact Us (Kh.1 h),fun g=>Ck⟩
 rw[Pk e]at h;by_cases f:C.1=4;·rw[Th f]at h;simp only[Bsq,Bvb]at h;have:=Mr h.1;exact⟨.inr (.inr (.inr (.inr ⟨f,Ck,Ck⟩))),fun _=>h⟩
 rw[Pk f]at h;simp at h
def Bd4{z c:TI}(b:c.length<=120){q:TP}(h:Cd.frAll z c q=true):∀t∈q,I9 z (W9 c) t:=fun t e=>Bkr b (List.all_eq_true.1 h t e)
def Rp{z:TI}{c:Int}{i:List Rd.Mth}{K:Rd.Mth}(g:Pa z c i K){B:Int}{e:Bf}(h:D9 K B=some e):Io z K e:=by
 obtain⟨y,j,rfl⟩:=Bj7 h;obtain⟨a,b,_⟩:=g.map y j;obtain⟨f,d⟩:=g.rd.ml y j;exact⟨f,d,Bd4 g.bd.code a,Bd4 g.bd.code b⟩
def Pt{z:TI}{c:Int}{i:List Rd.Mth}{K:Rd.Mth}(g:Pa z c i K):Io z K (Er K):=by
 have j:=g.own;have l:=g.rd.lo;have e:=g.rd.st;refine⟨?_,by simpa[Er,Lg] using e.1,?_,by simp[Er,Lg]⟩
 ·simp only[Er,Lg,Ws,Bwu];omega
 intro t b;simp only[Er,Lg]at b;rcases List.mem_append.1 b with b|b
 ·unfold Iy at b;rcases List.mem_append.1 b with b|b
  ·split at b
   ·simp at b
   rename_i f;obtain rfl:=List.mem_singleton.1 b;exact⟨Us (Kh.1 (g.cl.resolve_left f)),fun h=>by simp at h⟩
  exact Yr (Nn g.ps t b)
 rw[(List.mem_replicate.1 b).2];exact Yj _ _
structure Vg(T:List Int)(nf:Int)(ms:List Rd.Mth)(m:Rd.Mth)(op n:Int):Prop where
 loc:op=2\/op=3->0<=n/\n<m.locals
 cls:op=15\/op=16\/op=19->0<=n/\n<(T.length:Int)
 fld:op=17\/op=18->0<=n/\n<nf
 mth:op=20\/op=21->0<=n/\n<(ms.length:Int)
 own:op=21->(ms.getD n.toNat ⟨0,0,[],(0,0),0,0,[],[],[]⟩).cl≠255
def Sz{z:TI}{c:Int}{i:List Rd.Mth}{K:Rd.Mth}(g:Pa z c i K){u:Nat}(j:u∈Cd.places K.code):Vg z c i K (K.code.getD u 0) (Cd.atI K.code ((u:Int)+1)):=by
 have b:=g.arg u j;obtain⟨t,l⟩:=Nw g.unread u j;unfold Cd.argAt at b;rw[Xd]at b;have q:Cd.wd (K.code.getD u 0)=2->0<=Cd.atI K.code ((u:Int)+1):=fun s=>by
  rw[(Vv l s).2];exact Vx g.bd.code0 _
 generalize Cd.atI K.code ((u:Int)+1)=n at *;generalize K.code.getD u 0=op at *;have f:op=2\/op=3\/(11<=op/\op<=21)->0<=n:=fun h=>q (by unfold Cd.wd;rw[Th Ck]);unfold Cd.argB at b;refine⟨fun h=>?_,fun h=>?_,fun h=>?_,fun h=>?_,fun h=>?_⟩
 ·rw[Th h]at b;exact⟨f Ck,by simpa using b⟩
 ·rw[Pk Ck,Pk Ck,Th h]at b;exact Kh.1 b
 ·rw[Pk Ck,Pk Ck,Pk Ck,Th h]at b;exact⟨f Ck,by simpa using b⟩
 ·refine⟨f Ck,?_⟩;rw[Pk Ck,Pk Ck,Pk Ck,Pk Ck]at b;rcases h with h|h
  ·rw[Th h]at b;simp at b;exact_mod_cast b.1
  rw[Pk Ck,Th h]at b;simp at b;exact_mod_cast b.1
 have v:=f Ck;rw[Pk Ck,Pk Ck,Pk Ck,Pk Ck,Pk Ck,Th h]at b;simp only[Bsq,Bsv,bne_iff_ne,ne_eq,Br1]at b;have e:(List.map Rd.Mth.cl i).getD n.toNat 0=(i.getD n.toNat ⟨0,0,[],(0,0),0,0,[],[],[]⟩).cl:=by
  simp only[Vm,Bsf];have:n.toNat<i.length:=Ck;rw[Brl this];rfl
 rw[e]at b;exact b.2
def Px(b:List Rd.Cls):((Cp b).length:Int)=(Cd.fieldSum b:Int):=by
 have:=Cd.fields_eq (Tr.tree b) b b.length (Bru _);rw[Buv]at this;unfold Cp;rw[this]
def Ww{m:List Rd.Cls}{i:List Rd.Mth}(k:Kn m i){n:Int}(h:0<=n/\n<(Cd.fieldSum m:Int)):(0<=((Cp m).getD n.toNat ⟨0,0,(0,0)⟩).owner/\((Cp m).getD n.toNat ⟨0,0,(0,0)⟩).owner<((Tr.tree m).length:Int))/\Tr.plainB (Tr.tree m) ((Cp m).getD n.toNat ⟨0,0,(0,0)⟩).t.1 ((Cp m).getD n.toNat ⟨0,0,(0,0)⟩).t.2=true:=by
 have b:=Px m;have:=Ad k.fl m.length _ (show (Cp m).getD n.toNat ⟨0,0,(0,0)⟩∈Cp m from Hf Ck);have c:=Ie m;exact⟨Ck,this.2⟩
def Rs{z:TI}{n:Int}(h:0<=n/\n<(z.length:Int)):Tr.plainB z 3 n=true:=by
 unfold Tr.plainB;rw[Pk Ck,Th rfl];exact Kh.2 h
def Ug{m:List Rd.Cls}{i:List Rd.Mth}(k:Kn m i){K:Rd.Mth}{op n:Int}(f:K∈i)(h:Vg (Tr.tree m) (Cd.fieldSum m:Int) i K op n):∀t∈Co (Cp m) i K.result op n,Tr.plainB (Tr.tree m) t.1 t.2=true:=by
 have q:=Ie m;have g:=k.mt K f;unfold Co;intro t b
 split at b
 ·simp at b;rw[b];rfl
 split at b
 ·simp at b;rw[b];rfl
 split at b
 ·simp at b;rw[b];exact Rs ⟨Hd,Fr⟩
 split at b
 ·rename_i j;obtain rfl:=List.mem_singleton.1 b;exact Rs (Ww k (h.fld (.inl j))).1
 split at b
 ·rename_i l;have:=Ww k (h.fld (.inr l));simp only[Bub,Buh,Bv8]at b;rcases b with rfl|rfl
  ·exact Rs this.1
  exact this.2
 split at b
 ·rename_i p;have:=h.mth (.inl p);exact Nn (k.mt _ (Hf (show n.toNat<i.length by omega))).ps t b
 split at b
 ·rename_i c;have s:=h.mth (.inr c);have e:=k.mt _ (Hf (d:=⟨0,0,[],(0,0),0,0,[],[],[]⟩) (show n.toNat<i.length by omega));rcases List.mem_cons.1 b with rfl|b
  ·exact Rs (Kh.1 (e.cl.resolve_left (h.own c)))
  exact Nn e.ps t b
 split at b
 ·exact Bbi g.res t b
 split at b
 ·obtain rfl:=List.mem_singleton.1 b;exact Rs ⟨Hd,Fr⟩
 simp at b
def Bao{m:List Rd.Cls}{i:List Rd.Mth}(k:Kn m i){K:Rd.Mth}{op n:Int}(b:K∈i)(h:Vg (Tr.tree m) (Cd.fieldSum m:Int) i K op n):∀t∈Co (Cp m) i K.result op n,Tr.Arg (Tr.tree m) t.1 t.2:=fun t c=>(Ha (Ug k b h t c)).1
def Bkb{m:List Rd.Cls}{i:List Rd.Mth}(k:Kn m i){K:Rd.Mth}{op n:Int}{c:Int->Prop}(h:Vg (Tr.tree m) (Cd.fieldSum m:Int) i K op n):∀t∈Dp (Cp m) i op n,I9 (Tr.tree m) c t:=by
 unfold Dp;intro t b
 split at b
 ·simp at b;rw[b];exact⟨.inr (.inl ⟨rfl,rfl⟩),fun h=>by simp at h⟩
 split at b
 ·simp at b;rw[b];exact⟨.inr (.inr (.inl ⟨rfl,rfl⟩)),fun h=>by simp at h⟩
 split at b
 ·rename_i e;obtain rfl:=List.mem_singleton.1 b;exact Yr (Ww k (h.fld (.inl e))).2
 split at b
 ·rename_i f;obtain rfl:=List.mem_singleton.1 b;exact⟨Us (h.cls (.inr (.inr f))),fun h=>by simp at h⟩
 split at b
 ·rename_i g;have:=h.mth g;exact Yr (Bbi (k.mt _ (Hf (show n.toNat<i.length by omega))).res t b)
 simp at b
end Go.Proofs.YtpcgnjolfahacaaGreat
