/- the proof's parts -/
import Derived.Test.YtpcgnjolfahacaaGreatPk00
set_option maxRecDepth 100000
set_option maxHeartbeats 40000000
set_option linter.unusedVariables false
set_option linter.unusedSimpArgs false
set_option linter.defProp false
namespace Go.Proofs.YtpcgnjolfahacaaGreat
open Go.RowKit Go.Proofs.Tryz
def Nk{α:Type}(f:α->TV)(n:Nat)(b:∀x,(f x).length=n)(l:List α)(k:Nat)(c:k<l.length)(j:Nat)(e:j<n):(l.flatMap f)[k*n+j]?=(f l[k])[j]?:=by
 induction l generalizing k with
 | nil=>simp at c
 | cons x r ih =>
  rw[Bsz];cases k with
  | zero =>
   rw[Br6 (by rw[b];omega)];simp
  | succ i =>
   rw[Br0 (by rw[b,Bvd];omega),b,show (i+1)*n+j-n=i*n+j by rw[Bvd];omega];simpa using ih i (by simpa using c)
def Kx{α:Type}(f:α->TV)(n:Nat)(b:∀x,(f x).length=n)(l:List α):(l.flatMap f).length=l.length*n:=by
 induction l with
 | nil=>simp
 | cons x r ih=>rw[Bsz,Ws,b,ih,Br7,Bvd];omega
def Av(l:List (Rf.Mth×K0))(k:Nat)(b:k<l.length)(j:Nat)(c:j<12):(Oh l)[k*12+j]?=(Ly l[k].1 l[k].2)[j]?/\k*12+j<(Oh l).length:=by
 refine⟨Nk (fun x:Rf.Mth×K0=>Ly x.1 x.2) 12 (fun _=>rfl) l k b j c,?_⟩;unfold Oh;rw[Kx (fun x:Rf.Mth×K0=>Ly x.1 x.2) 12 (fun _=>rfl) l];omega
def Cd.argB(T:TI)(nf:Int)(ow:TI)(lo:Int)(c:TI)(op n:Int):Bool :=
 if op=2\/op=3 then decide (n<lo)
 else if 11<=op/\op<=14 then Cd.begB c n
 else if op=15\/op=16\/op=19 then Tr.hasB T n
 else if op=17\/op=18 then decide (n<nf)
 else if op=20 then decide (n<(ow.length:Int))&&(ow.getD n.toNat 0==255)
 else if op=21 then decide (n<(ow.length:Int))&&(ow.getD n.toNat 0 != 255)
 else true
structure RFl where
 a1:Option Addr
 c1:Nat
 a2:Option Addr
 c2:Nat
 bb:Nat
 l:List (Rd.Cls × Value)
 ms:List (Rf.Mth × K0)
def RFl.val(f:RFl):Value:=.agg #[.slice f.a1 f.l.length f.c1,.slice f.a2 f.ms.length f.c2]
def RFl.ok(f:RFl)(w:TW):Prop:=f.l.length<=13/\7<=f.l.length/\f.ms.length<=6/\(∀p∈f.l,p.1.fields.length<=1000)/\Hm w f.bb (.slice f.a1 f.l.length f.c1) f.l/\Ks w f.bb (.slice f.a2 f.ms.length f.c2) f.ms
def RFl.ok.below{f:RFl}{w s:TW}(h:f.ok w)(b:Bl w s):f.ok s :=
 ⟨h.1,h.2.1,h.2.2.1,h.2.2.2.1,h.2.2.2.2.1.kp (Kp.of_below (e:=none) b) Fm Fm,h.2.2.2.2.2.kp (Kp.of_below (e:=none) b) Fm Fm Fm Fm⟩
def RFl.T(f:RFl):List Int:=Ct f.l
def RFl.fields(f:RFl):List Rf.Fld:=Rf.fieldsTo (Ct f.l) (f.l.map Prod.fst) (f.l.length-7)
def RFl.owners(f:RFl):List Int:=f.ms.map fun x=>x.1.m.cl
def Bmd(f:RFl)(m:RMV)(p:Nat)(w:TW)(hf:f.ok w)(hp:p<m.code.size)(hs:m.code.size<=100000)(hr:p+Cd.wd ((Ca m.code).getD p 0)<=m.code.size):Calls prog 95 #[f.val,m.val,.i (p:Int)] w fun e w' => e=.r (.bool (Cd.argB f.T (f.fields.length:Int) f.owners m.lo (Ca m.code) ((Ca m.code).getD p 0) (Rf.at' m.code.data.toList ((p:Int)+1))))/\Bl w w':=by
 have hN:2<=Cd.wd ((Ca m.code).getD p 0)->0<=Rf.at' m.code.data.toList ((p:Int)+1):=by
  intro h;have:Rf.at' m.code.data.toList ((p+1:Nat):Int)=_:=Ry (s:=m.code) (i:=p+1) Ck;rw[show ((p:Int)+1)=((p+1:Nat):Int) by omega,this];omega
 rw[Kq _ _ hp]at hN hr ⊢;have a6:=fun w=>Mz m p w hp hs;have a7:=fun x w=>Ro m x w hs;have a0:=fun x w=>L9 f.T f.a1 f.a2 f.c1 f.ms.length f.c2 x w;have a3:=fun w (h:f.ok w)=>N6 f.a1 f.a2 f.c1 f.ms.length f.c2 f.bb f.l w h.1 h.2.1 h.2.2.2.1 h.2.2.2.2.1;have b2:f.T.length=f.l.length:=Jn _;rw[b2]at a0;have b3:=hf;obtain⟨F,G,I,J,K,l,j⟩:=f;obtain⟨cl,nm,pa,pl,pc,r1,r2,lo,st,g,ha,hl,hc,ma,ml,mc,d3,d4⟩:=m;simp only[RMV.val,RFl.val]at hp hs hN hr a6 a7 a0 a3 ⊢;have b4:(RFl.mk F G I J K l j).fields=Rf.fieldsTo (Ct l) (l.map Prod.fst) (l.length-7):=rfl;rw[<- b4]at a3;generalize (RFl.mk F G I J K l j).fields=b5 at *;generalize (RFl.mk F G I J K l j).T=T at *;generalize b9:Rf.at' g.data.toList ((p:Int)+1)=n at *;have b6:(RFl.mk F G I J K l j).owners.length=j.length:=by simp[RFl.owners]
 generalize A:(RFl.mk F G I J K l j).owners=ow at *;generalize t:Cd.argB T (b5.length:Int) ow lo (Ca g) (g[p].toNat:Int) n=R;have d5:(p:Int)<(g.size:Int):=Ck;have d6:∀c:UInt8,IntKind.i64.wrap (c.toNat:Int)=(c.toNat:Int):=fun c=>Cx _ Ck (by have:=c.toNat_lt;omega);have c0:=Bc a6;have c3:=Bc a7;have c4:=Bc a0;have c5:=Bc a3;have a8:=Bc b3;have b7:Hid (2<=Cd.wd (g[p].toNat:Int)->0<=n):=hN;have b8:=Bc A;have a4:=Bc b6;clear b9 b4 a6 a7 a0 a3 b3 hf hN hr A b6 b2;go_in;go_wp2_with fail;refine Qm (Ba c0 _) ?_;intro w1 a5;have z:=(Bu w _ _).trans (a5.mono Fr);have CF:=stay a5 (Cb w _ _);have CM:=stay a5 (Bx w _ _);obtain⟨m0,m1,m2,m3,m4,m5,m6,m7,m8,m9,c6,c7⟩:=El CM;obtain⟨f0,f1⟩:=cl2 CF;simp at f0 f1 m0 m1 m2 m3 m4 m5 m6 m7 m8 m9 c6 c7;have lF:=Sp CF;have lM:=Sp CM;clear a5;by_cases b:(g[p].toNat:Int)=2\/(g[p].toNat:Int)=3
 ·rcases b with b|b
  all_goals
   have v:Hid (R=decide (n<lo)):=by unfold Hid;rw[<- t];unfold Cd.argB;rw[b];simp
   clear t;go_wp2;go_ret;exact⟨by rw[Ba v];rfl,z⟩
 have n2:((g[p].toNat:Int)==2)=false:=Fr;have n3:((g[p].toNat:Int)==3)=false:=Fr;have i2:=b;clear b;by_cases b:(g[p].toNat:Int)=11\/(g[p].toNat:Int)=12\/(g[p].toNat:Int)=13\/(g[p].toNat:Int)=14
 ·rcases b with b|b|b|b
  all_goals
   have v:Hid (R=Cd.begB (Ca g) n):=by unfold Hid;rw[<- t];unfold Cd.argB;rw[b];simp
   clear t;go_wp2_with fail;refine Qm (Ba c3 n _) ?_;intro w2 L;go_wp2;go_ret;exact⟨by rw[Ba v];rfl,QB z L⟩
 have d7:((g[p].toNat:Int)==11)=false:=Fr;have d8:((g[p].toNat:Int)==12)=false:=Fr;have d9:((g[p].toNat:Int)==13)=false:=Fr;have f2:((g[p].toNat:Int)==14)=false:=Fr;have c8:=b;clear b;by_cases b:(g[p].toNat:Int)=15\/(g[p].toNat:Int)=16\/(g[p].toNat:Int)=19
 ·rcases b with b|b|b
  all_goals
   have v:Hid (R=Tr.hasB T n):=by unfold Hid;rw[<- t];unfold Cd.argB;rw[b];simp
   clear t;go_wp2_with fail;refine Qm (Ba c4 n _) ?_;intro w2 L;go_wp2;go_ret;exact⟨by rw[Ba v];rfl,QB z L⟩
 have f3:((g[p].toNat:Int)==15)=false:=Fr;have f4:((g[p].toNat:Int)==16)=false:=Fr;have f5:((g[p].toNat:Int)==19)=false:=Fr;have c9:=b;clear b;by_cases b:(g[p].toNat:Int)=17\/(g[p].toNat:Int)=18
 ·rcases b with b|b
  all_goals
   have v:Hid (R=decide (n<(b5.length:Int))):=by unfold Hid;rw[<- t];unfold Cd.argB;rw[b];simp
   clear t;go_wp2_with fail;refine(Ba c5 _ ((Ba a8).below z)).mono ?_;rintro e w2 ⟨va,vc,rfl,_,L⟩;go_wp2;go_ret;exact⟨by rw[Ba v];rfl,QB z L⟩
 have f6:((g[p].toNat:Int)==17)=false:=Fr;have f7:((g[p].toNat:Int)==18)=false:=Fr;have d0:=b;clear b;by_cases b:(g[p].toNat:Int)=20
 ·have a9:0<=n:=(Ba b7) (by rw[b];decide);by_cases N:n<(j.length:Int)
  ·obtain⟨q,hq⟩:=Brp a9;subst hq;have O:q<j.length:=Ck;obtain⟨Q,V⟩:=Av j q O 0 Ck;obtain⟨Y,Z,b0,_,B⟩:=Cf (Ba a8).2.2.2.2.2.1 Mc;simp only at Z B;have D:=(B _ V).trans Q;simp[Ly]at D;have A:ow.getD q 0=j[q].1.m.cl:=by rw[<- Ba b8];simp[RFl.owners,Vm,O]
   have v:Hid (R=(j[q].1.m.cl==255)):=by unfold Hid;rw[<- t];unfold Cd.argB;rw[b];simp[N,Ba a4,-List.getD_eq_getElem?_getD];rw[A]
   generalize j[q].1.m.cl=b1 at *;have lq:Y<w.heap.size:=b0;clear t A Q V B;subst Z;have y1:w1.C Y (q*12) (.i b1):=QC z lq D;clear D;go_wp2;go_ret;exact⟨by rw[Ba v];rfl,z⟩
  have v:Hid (R=false):=by unfold Hid;rw[<- t];unfold Cd.argB;rw[b];simp[N,Ba a4]
  clear t;go_wp2;go_ret;exact⟨by rw[Ba v];rfl,z⟩
 have f8:((g[p].toNat:Int)==20)=false:=Fr;have d1:=b;clear b;by_cases b:(g[p].toNat:Int)=21
 ·have a9:0<=n:=(Ba b7) (by rw[b];decide);by_cases N:n<(j.length:Int)
  ·obtain⟨q,hq⟩:=Brp a9;subst hq;have O:q<j.length:=Ck;obtain⟨Q,V⟩:=Av j q O 0 Ck;obtain⟨Y,Z,b0,_,B⟩:=Cf (Ba a8).2.2.2.2.2.1 Mc;simp only at Z B;have D:=(B _ V).trans Q;simp[Ly]at D;have A:ow.getD q 0=j[q].1.m.cl:=by rw[<- Ba b8];simp[RFl.owners,Vm,O]
   have v:Hid (R=(j[q].1.m.cl != 255)):=by unfold Hid;rw[<- t];unfold Cd.argB;rw[b];simp[N,Ba a4,-List.getD_eq_getElem?_getD];rw[A]
   generalize j[q].1.m.cl=b1 at *;have lq:Y<w.heap.size:=b0;clear t A Q V B;subst Z;have y1:w1.C Y (q*12) (.i b1):=QC z lq D;clear D;go_wp2;go_ret;exact⟨by rw[Ba v];rfl,z⟩
  have v:Hid (R=false):=by unfold Hid;rw[<- t];unfold Cd.argB;rw[b];simp[N,Ba a4]
  clear t;go_wp2;go_ret;exact⟨by rw[Ba v];rfl,z⟩
 have f9:((g[p].toNat:Int)==21)=false:=Fr;have d2:=b;clear b;have v:Hid (R=true):=by
  unfold Hid;rw[<- t];unfold Cd.argB;rw[Pk Ck,Pk Ck,Pk Ck,Pk Ck,Pk Ck,Pk Ck]
 clear t i2 c8 c9 d0 d1 d2;go_wp2;go_ret;exact⟨by rw[Ba v];rfl,z⟩
def Cd.nAt(c:TI)(p:Nat):Int:=if p+1<c.length then c.getD (p+1) 0 else -1
def Bqc(s:ByteArray)(p:Nat):Rf.at' s.data.toList ((p:Int)+1)=Cd.nAt (Ca s) p:=by
 unfold Cd.nAt;rw[He];by_cases h:p+1<s.size;·rw[Th h,Kq _ _ h];have:Rf.at' s.data.toList ((p+1:Nat):Int)=_:=Ry (s:=s) (i:=p+1) h;rw[show ((p:Int)+1)=((p+1:Nat):Int) by omega,this]
 rw[Pk h];exact Rf.at_out Fr
def Cd.argAt(T:TI)(nf:Int)(ow:TI)(lo:Int)(c:TI)(p:Nat):Bool:=Cd.argB T nf ow lo c (c.getD p 0) (Cd.nAt c p)
def Cd.badArg(T:TI)(nf:Int)(ow:TI)(lo:Int)(c:TI)(p:Nat):Bool:=!Cd.argAt T nf ow lo c p
def Cd.badCode(T:TI)(nf:Int)(ow:TI)(lo:Int)(c:TI):Int :=
 if 0<=Cd.unread c then Cd.unread c else Cd.first (Cd.badArg T nf ow lo c) (Cd.places c)
def Bbk{f:Nat->Bool}{u:Nat}{r:List Nat}(h:Cd.first f (u::r)<0):f u=false/\Cd.first f r<0:=by
 rw[Cd.first]at h
 by_cases b:f u=true;·rw[Th b]at h;omega
 rw[Pk b]at h;exact⟨by simpa using b,h⟩
def Bc0(f:RFl)(m:RMV)(w:TW)(Q:f.ok w)(L:m.code.size<=100000):Calls prog 58 #[f.val,m.val] w fun e s => e=.r (.i (Cd.badCode f.T (f.fields.length:Int) f.owners m.lo (Ca m.code)))/\Bl w s:=by
 unfold Cd.badCode;have V:=fun w=>Beo m w L;have Y:=fun p w Z=>Lz m p w Z L;have hA:=fun p w (h:f.ok w) Z g=>Bmd f m p w h Z L g;have hl:=He m.code;generalize f.T=T at *;generalize (f.fields.length:Int)=t at *;generalize f.owners=z at *;have a0:∀p w,f.ok w->p<m.code.size->Cd.noRead (Ca m.code) p=false->Calls prog 95 #[f.val,m.val,.i (p:Int)] w fun e s=>e=.r (.bool (Cd.argAt T t z m.lo (Ca m.code) p))/\Bl w s:=by
  intro p w h1 h2 h3;unfold Cd.argAt;rw[<- Bqc];refine hA p w h1 h2 ?_;simp only[Cd.noRead,Bty,Bti]at h3;omega
 clear hA;have N:=Bu w (O11 f.a1 f.l.length f.c1 f.a2 f.ms.length f.c2) m.obj;have a3:=Cb w (O11 f.a1 f.l.length f.c1 f.a2 f.ms.length f.c2) m.obj;have a4:=Bx w (O11 f.a1 f.l.length f.c1 f.a2 f.ms.length f.c2) m.obj;have c6:=Bc Q;have q:Cd.unread (Ca m.code)=Cd.first (Cd.noRead (Ca m.code)) (Cd.starts (Ca m.code) (Ca m.code).length 0):=rfl
 unfold Cd.places;generalize hu:Cd.unread (Ca m.code)=u at *;have a6:∀s,Bl w s->f.ok s:=fun s hb=>Q.below hb;clear Q;obtain⟨c7,c8,c9,d0,bb,l,ms⟩:=f;obtain⟨cl,nm,pa,pl,pc,r1,r2,B,st,b,ha,d1,hc,ma,ml,mc,d2,d3⟩:=m;simp only[RMV.val,RMV.obj,RFl.val]at L V Y a0 hl N a3 a4 q ⊢;have HU:=Bc V;have HN:=Bc Y;have HA:=Bc a0;have d4:=Bc a6;clear V Y a0 a6 hu c6;by_cases a7:0<=u;·rw[Th a7];clear q;go_in;go_wp2_with fail;refine Qm (Ba HU _) ?_;intro w1 D;go_wp2;go_ret;exact⟨rfl,N.trans (D.mono Fr)⟩
 rw[Pk a7];generalize g:Cd.first (Cd.badArg T t z B (Ca b)) (Cd.starts (Ca b) (Ca b).length 0)=r
 have C:=Bc g;have F:Hid (Cd.first (Cd.noRead (Ca b)) (Cd.starts (Ca b) (Ca b).length 0)<0):=by unfold Hid;rw[<- q];omega
 clear g q;go_in;go_wp2_with fail;refine Qm (Ba HU _) ?_;intro w1 D;have a8:=N.trans (D.mono Fr);have a9:=stay D a3;have b0:=stay D a4;clear D N a3 a4 HU;go_wp2
 go_loopw [6] (fun v wr=>∃p k:Nat,v=.i (p:Int)/\(Ca b).length<=p+k/\p<=200000/\Hid (Cd.first (Cd.badArg T t z B (Ca b)) (Cd.starts (Ca b) k p)=r)/\Hid (Cd.first (Cd.noRead (Ca b)) (Cd.starts (Ca b) k p)<0)/\Bl w wr /\
   wr.heap[w.heap.size]?=some (O11 c7 l.length c8 c9 ms.length d0) /\
   wr.heap[w.heap.size+1]?=some (O12 cl nm pa pl pc r1 r2 B st b ha d1 hc ma ml mc d2 d3))
  (fun v _=>b.size-(intOf v).toNat)
 case atStart=>exact⟨0,_,rfl,Ck,Ck,C,F,a8,a9,b0⟩
 case round=>
  clear a8 a9 b0 C F;obtain⟨p,k,rfl,hk,f4,C,F,G,CF,CM⟩:=hrel;obtain⟨m0,m1,m2,m3,m4,m5,m6,m7,m8,m9,b1,b2⟩:=El CM;simp at m0 m1 m2 m3 m4 m5 m6 m7 m8 m9 b1 b2;obtain⟨f0,f1⟩:=cl2 CF;simp at f0 f1;have b3:=G.size;by_cases b4:p<b.size
  ·obtain⟨j,rfl,hj,b5⟩:=Cd.starts_go (c:=Ca b) (k:=k) (p:=p) Ck hk;have g:=Ba C;have q:=Ba F;rw[b5]at g q;obtain⟨b6,b7⟩:=Bbk q;rw[Cd.first]at g
   have d5:(p:Int)<(b.size:Int):=Ck;have f5:=Cd.wd_bd ((Ca b).getD p 0);have hn:=fun w=>Ba HN p w b4;have b8:=Ba HA p wr (Ba d4 _ G) b4 b6;have b9:Cd.badArg T t z B (Ca b) p = !Cd.argAt T t z B (Ca b) p:=rfl;rw[b9]at g;generalize Cd.wd ((Ca b).getD p 0)=d at *;generalize Cd.argAt T t z B (Ca b) p=A at *;have d6:=Bc hn;have c0:=Bc b8;have d7:=Bc b7;clear hn b8 b5 C F q b6 b7 b9;cases A with
   | false =>
    have J:Hid ((p:Int)=r):=by unfold Hid;rw[<- g];simp
    clear g;go_wp2_with fail;refine Qm (Ba c0) ?_;intro w2 I;have K:=G.trans (I.mono b3);go_wp2;go_ret;exact⟨by rw[<- Ba J];rfl,K⟩
   | true =>
    have J:Hid (Cd.first (Cd.badArg T t z B (Ca b)) (Cd.starts (Ca b) j (p+d))=r):=by unfold Hid;rw[<- g];simp
    clear g;go_wp2_with fail;refine Qm (Ba c0) ?_;intro w2 I;have K:=G.trans (I.mono b3);have c3:=stay I CF;have a5:=stay I CM;obtain⟨k0,k1,k2,k3,k4,k5,k6,k7,k8,k9,c4,c5⟩:=El a5;simp at k0 k1 k2 k3 k4 k5 k6 k7 k8 k9 c4 c5;have d8:=K.size;clear I G CF CM f0 f1 m0 m1 m2 m3 m4 m5 m6 m7 m8 m9 b1 b2;go_wp2_with fail;refine Qm (Ba d6 _) ?_;intro w3 O;have d9:=K.trans (O.mono d8);have f2:=stay O c3;have f3:=stay O a5;clear O K c3 a5 k0 k1 k2 k3 k4 k5 k6 k7 k8 k9 c4 c5;go_wp2;go_roundw
    case rel=>exact⟨p+d,j,rfl,hj,Ck,J,d7,d9,f2,f3⟩
    case measure=>simp[intOf];omega
  have g:=Ba C;rw[Cd.starts_end Ck]at g;have J:=Bc g;have d5:¬(p:Int)<(b.size:Int):=Ck;clear g C F;go_wp2;go_ret;exact⟨by rw[<- Ba J];rfl,G⟩
def Cd.hndBad(T:TI)(c:TI)(x:Rd.Hnd):Bool :=
 decide (x.til<=x.frm) || !Cd.begB c x.frm || !Cd.begB c x.target || (!Cd.begB c x.til&&(x.til != (c.length:Int))) || !Tr.hasB T x.cl || !Tr.rbel T x.cl 1
def Cd.firstIx{α:Type}(f:α->Bool):Nat->List α->Int
 | _,[]=>-1
 | k,x::r=>if f x=true then (k:Int) else Cd.firstIx f (k+1) r
def Db(l:List Rd.Hnd)(k:Nat)(b:k<l.length)(j:Nat)(c:j<4):(Ev l)[k*4+j]?=[Value.int .i64 l[k].frm,.i l[k].til,.i l[k].target,.i l[k].cl][j]?/\k*4+j<(Ev l).length:=by
 refine⟨Nk (fun x:Rd.Hnd=>[Value.int .i64 x.frm,.i x.til,.i x.target,.i x.cl]) 4 (fun _=>rfl) l k b j c,?_⟩;unfold Ev;rw[Kx (fun x:Rd.Hnd=>[Value.int .i64 x.frm,.i x.til,.i x.target,.i x.cl]) 4 (fun _=>rfl) l];omega
def Zn(f:RFl)(m:RMV)(b:List Rd.Hnd)(w:TW)(hf:f.ok w)(d9:m.code.size<=100000)(f2:m.hl=b.length)(i0:b.length<=1000)(hh:Iz w f.bb (.s m.ha m.hl m.hc) b):Calls prog 59 #[f.val,m.val] w fun e w' => e=.r (.i (Cd.firstIx (Cd.hndBad f.T (Ca m.code)) 0 b))/\Bl w w':=by
 have c5:=fun x w=>Ro m x w d9;have b2:=fun x w=>L9 f.T f.a1 f.a2 f.c1 f.ms.length f.c2 x w;have b3:=fun x y w (h:f.ok w)=>J9 f.a1 f.a2 f.c1 f.ms.length f.c2 f.bb f.l x y w (by have:=h.1;omega) h.2.2.2.2.1;have f3:f.T.length=f.l.length:=Jn _;rw[f3]at b2;have f4:Ct f.l=f.T:=rfl;rw[f4]at b3;have hl:=He m.code;have a8:=Bu w (O11 f.a1 f.l.length f.c1 f.a2 f.ms.length f.c2) m.obj;have a9:=Cb w (O11 f.a1 f.l.length f.c1 f.a2 f.ms.length f.c2) m.obj;have b0:=Bx w (O11 f.a1 f.l.length f.c1 f.a2 f.ms.length f.c2) m.obj;have f5:∀w',Bl w w'->f.ok w':=fun w' hb=>hf.below hb;have c6:∀w',Bl w w'->Iz w' f.bb (.s m.ha m.hl m.hc) b:=fun w' hb=>hh.kp (Kp.of_below (e:=none) hb) Fm;generalize f.T=T at *;generalize hr:Cd.firstIx (Cd.hndBad T (Ca m.code)) 0 b=r;have HR:Hid (Cd.firstIx (Cd.hndBad T (Ca m.code)) 0 (b.drop 0)=r):=hr;clear hr hf hh;obtain⟨g7,g8,g9,h0,bb,l,ms⟩:=f;obtain⟨cl,nm,pa,pl,pc,r1,r2,lo,st,p,ha,i1,hc,ma,ml,mc,h3,h4⟩:=m;simp only at f2;subst f2;simp only[RMV.val,RMV.obj,RFl.val]at d9 c5 b2 b3 hl a8 a9 b0 c6 HR ⊢;have c7:=Bc c5;have h5:=Bc b2;have h6:=Bc b3;have h7:=Bc f5;have f6:=Bc c6;clear c5 b2 b3 f5 c6 f3 f4;go_in;go_wp2
 go_loopw [5] (fun v wr=>∃k:Nat,k<=b.length/\v=.i (k:Int)/\Hid (Cd.firstIx (Cd.hndBad T (Ca p)) k (b.drop k)=r)/\Bl w wr /\
   wr.heap[w.heap.size]?=some (O11 g7 l.length g8 g9 ms.length h0) /\
   wr.heap[w.heap.size+1]?=some (O12 cl nm pa pl pc r1 r2 lo st p ha b.length hc ma ml mc h3 h4))
  (fun v _=>b.length-(intOf v).toNat)
 case atStart=>exact⟨0,Ck,rfl,HR,a8,a9,b0⟩
 case round=>
  clear a8 a9 b0 HR;obtain⟨k,hk,rfl,HR,hB,CF,CM⟩:=hrel;obtain⟨q,t,z,F,G,I,J,L,N,O,Q,V⟩:=El CM;simp at q t z F G I J L N O Q V;obtain⟨Y,Z⟩:=cl2 CF;simp at Y Z;have h8:=hB.size;have lF:=Sp CF;have lM:=Sp CM;by_cases a6:k<b.length
  ·obtain⟨g,hg,i2,_,b1⟩:=Cf (Ba f6 _ hB) Ck;have y0:=(b1 _ (Db b k a6 0 Ck).2).trans (Db b k a6 0 Ck).1;have y1:=(b1 _ (Db b k a6 1 Ck).2).trans (Db b k a6 1 Ck).1;have y2:=(b1 _ (Db b k a6 2 Ck).2).trans (Db b k a6 2 Ck).1;have y3:=(b1 _ (Db b k a6 3 Ck).2).trans (Db b k a6 3 Ck).1;have hd:b.drop k=b[k]::b.drop (k+1):=Brj a6;have hr:=Ba HR;rw[hd,Cd.firstIx]at hr;generalize b[k]=x at *;obtain⟨a0,a3,a7,a4⟩:=x;simp at y0 y1 y2 y3;have f7:Cd.hndBad T (Ca p) ⟨a0,a3,a7,a4⟩=(decide (a3<=a0) || !Cd.begB (Ca p) a0 || !Cd.begB (Ca p) a7||(!Cd.begB (Ca p) a3&&(a3 != (p.size:Int))) || !Tr.hasB T a4 || !Tr.rbel T a4 1):=by
    unfold Cd.hndBad;rw[hl]
   rw[f7]at hr;have f8:=fun w=>Ba c7 a0 w;have f9:=fun w=>Ba c7 a3 w;have g0:=fun w=>Ba c7 a7 w;have g1:=fun w=>Ba h5 a4 w;have g2:=fun w h=>Ba h6 a4 1 w h;generalize Cd.begB (Ca p) a0=A at *;generalize Cd.begB (Ca p) a3=B at *;generalize Cd.begB (Ca p) a7=C at *;generalize Tr.hasB T a4=K at *;generalize Tr.rbel T a4 1=D at *;have HA:=Bc f8;have HB:=Bc f9;have HC:=Bc g0;have HK:=Bc g1;have HD:=Bc g2;have j:=Bc hr;have h9:(k:Int)<(b.length:Int):=Ck;clear f8 f9 g0 g1 g2 hr f7 hd b1 HR f6;subst hg;have CX:=Be wr (O14 a0 a3 a7 a4);have a8:=hB.alloc h8 (O14 a0 a3 a7 a4);have a9:=Bg CF (O14 a0 a3 a7 a4);have b0:=Bg CM (O14 a0 a3 a7 a4);have lx:wr.heap.size<(wr.alloc (O14 a0 a3 a7 a4)).heap.size:=Hd;go_wp2_with fail;refine Qb (Ba HA _) a8 ?_;intro w1 b4 g3;have c8:=stay b4 a9;have c9:=stay b4 b0;have b5:=stay b4 CX;clear q t z F G I J L N O Q V Y Z y0 y1 y2 y3 b4 CF CM hB;obtain⟨q,t,z,F,G,I,J,L,N,O,Q,V⟩:=El c9;simp at q t z F G I J L N O Q V;obtain⟨Y,Z⟩:=cl2 c8;obtain⟨y0,y1,y2,y3⟩:=cl4 b5;simp at Y Z y0 y1 y2 y3;have i3:=Sp b5;go_wp2_with fail;refine Qb (Ba HB _) g3 ?_;intro w2 b6 g4;have d0:=stay b6 c8;have d1:=stay b6 c9;have b7:=stay b6 b5;clear q t z F G I J L N O Q V Y Z y0 y1 y2 y3 b6 c8 c9 b5 g3;obtain⟨q,t,z,F,G,I,J,L,N,O,Q,V⟩:=El d1;simp at q t z F G I J L N O Q V;obtain⟨Y,Z⟩:=cl2 d0;obtain⟨y0,y1,y2,y3⟩:=cl4 b7;simp at Y Z y0 y1 y2 y3;have i4:=Sp b7;go_wp2_with fail;refine Qb (Ba HC _) g4 ?_;intro w3 b8 g5;have d2:=stay b8 d0;have d3:=stay b8 d1;have b9:=stay b8 b7;clear q t z F G I J L N O Q V Y Z y0 y1 y2 y3 b8 d0 d1 b7 g4;obtain⟨q,t,z,F,G,I,J,L,N,O,Q,V⟩:=El d3;simp at q t z F G I J L N O Q V;obtain⟨Y,Z⟩:=cl2 d2;obtain⟨y0,y1,y2,y3⟩:=cl4 b9;simp at Y Z y0 y1 y2 y3;have i5:=Sp b9;go_wp2_with fail;refine Qb (Ba HK _) g5 ?_;intro w4 c0 d4;have d5:=stay c0 d2;have d6:=stay c0 d3;have c3:=stay c0 b9;clear q t z F G I J L N O Q V Y Z y0 y1 y2 y3 c0 d2 d3 b9 g5;obtain⟨q,t,z,F,G,I,J,L,N,O,Q,V⟩:=El d6;simp at q t z F G I J L N O Q V;obtain⟨Y,Z⟩:=cl2 d5;obtain⟨y0,y1,y2,y3⟩:=cl4 c3;simp at Y Z y0 y1 y2 y3;have i6:=Sp c3;go_wp2_with fail;refine Qb (Ba HD _ (Ba h7 _ d4)) d4 ?_;intro w5 c4 a5;have d7:=stay c4 d5;have d8:=stay c4 d6;have g6:=stay c4 c3;clear q t z F G I J L N O Q V Y Z y0 y1 y2 y3 c4 d5 d6 c3 d4;obtain⟨q,t,z,F,G,I,J,L,N,O,Q,V⟩:=El d8;simp at q t z F G I J L N O Q V;obtain⟨Y,Z⟩:=cl2 d7;obtain⟨y0,y1,y2,y3⟩:=cl4 g6;simp at Y Z y0 y1 y2 y3;have i7:=Sp g6;by_cases h1:a3<=a0
   ·have c:Hid ((k:Int)=r):=by unfold Hid;rw[<- Ba j];simp[h1]
    clear j;go_wp2;go_ret;exact⟨by rw[<- Ba c];rfl,a5⟩
   cases A with
   | false =>
    have c:Hid ((k:Int)=r):=by unfold Hid;rw[<- Ba j];simp
    clear j;go_wp2;go_ret;exact⟨by rw[<- Ba c];rfl,a5⟩
   | true =>
    cases C with
    | false =>
     have c:Hid ((k:Int)=r):=by unfold Hid;rw[<- Ba j];simp
     clear j;go_wp2;go_ret;exact⟨by rw[<- Ba c];rfl,a5⟩
    | true =>
     cases B with
     | true =>
      cases K with
      | false =>
       have c:Hid ((k:Int)=r):=by unfold Hid;rw[<- Ba j];simp[h1]
       clear j;go_wp2;go_ret;exact⟨by rw[<- Ba c];rfl,a5⟩
      | true =>
       cases D with
       | false =>
        have c:Hid ((k:Int)=r):=by unfold Hid;rw[<- Ba j];simp[h1]
        clear j;go_wp2;go_ret;exact⟨by rw[<- Ba c];rfl,a5⟩
       | true =>
        have c:Hid (Cd.firstIx (Cd.hndBad T (Ca p)) (k+1) (b.drop (k+1))=r):=by unfold Hid;rw[<- Ba j];simp[h1]
        clear j;go_wp2;go_roundw
        case rel=>exact⟨k+1,Ck,Mg,c,a5,d7,d8⟩
        case measure=>simp[intOf];omega
     | false =>
      by_cases h2:a3=(p.size:Int)
      ·cases K with
       | false =>
        have c:Hid ((k:Int)=r):=by unfold Hid;rw[<- Ba j];simp[h2,show ¬((p.size:Int)<=a0) from by omega]
        clear j;go_wp2;go_ret;exact⟨by rw[<- Ba c];rfl,a5⟩
       | true =>
        cases D with
        | false =>
         have c:Hid ((k:Int)=r):=by unfold Hid;rw[<- Ba j];simp[h2,show ¬((p.size:Int)<=a0) from by omega]
         clear j;go_wp2;go_ret;exact⟨by rw[<- Ba c];rfl,a5⟩
        | true =>
         have c:Hid (Cd.firstIx (Cd.hndBad T (Ca p)) (k+1) (b.drop (k+1))=r):=by unfold Hid;rw[<- Ba j];simp[h2,show ¬((p.size:Int)<=a0) from by omega]
         clear j;go_wp2;go_roundw
         case rel=>exact⟨k+1,Ck,Mg,c,a5,d7,d8⟩
         case measure=>simp[intOf];omega
      have c:Hid ((k:Int)=r):=by unfold Hid;rw[<- Ba j];simp[h2]
      clear j;go_wp2;go_ret;exact⟨by rw[<- Ba c];rfl,a5⟩
  have hf:r = -1:=by rw[<- Ba HR,Brq Ck];rfl
  have c:=Bc hf;have h9:¬(k:Int)<(b.length:Int):=Ck;clear hf HR;go_wp2;go_ret;exact⟨by rw[Ba c];rfl,hB⟩
def Ty{z:TI}{k b t:Nat}(h:t∈Cd.starts z k b):t<z.length:=by
 induction k generalizing b with
 | zero=>simp[Cd.starts]at h
 | succ j ih =>
  unfold Cd.starts at h;by_cases e:b<z.length
  ·rw[Th e]at h;rcases List.mem_cons.1 h with rfl|h
   ·exact e
   exact ih h
  rw[Pk e]at h;simp at h
def Mr{c:TI}{n:Int}(h:Cd.begB c n=true):0<=n/\n<(c.length:Int):=by
 unfold Cd.begB Cd.places at h;rw[Bu9]at h;obtain⟨p,b,e⟩:=h;have:=Ty b;simp at e;omega
def Cd.framed(T c:TI)(k n:Int):Bool :=
 if k=0\/k=1\/k=2 then n==0 else if k=3 then Tr.hasB T n else if k=4 then Cd.begB c n&&(c.getD n.toNat 0==15) else false
def Beq(f:RFl)(m:RMV)(k n:Int)(w:TW)(G:m.code.size<=100000):Calls prog 97 #[f.val,m.val,.agg #[.i k,.i n]] w fun e N => e=.r (.bool (Cd.framed f.T (Ca m.code) k n))/\Bl w N:=by
 have B:=fun w=>Ro m n w G;have z:=fun w=>L9 f.T f.a1 f.a2 f.c1 f.ms.length f.c2 n w;have I:f.T.length=f.l.length:=Jn _;rw[I]at z;have q:=fun h=>Mr (c:=Ca m.code) (n:=n) h;have C:=fun p D=>Kq m.code p D;rw[He]at q;generalize f.T=T at *;generalize g:Cd.framed T (Ca m.code) k n=R;unfold Cd.framed at g;obtain⟨a0,a3,a4,a5,bb,l,ms⟩:=f;obtain⟨cl,nm,pa,pl,pc,r1,r2,lo,st,F,ha,a6,hc,ma,ml,mc,a7,a8⟩:=m;simp only[RMV.val,RFl.val]at G B z q C g ⊢;generalize Cd.begB (Ca F) n=b at *;have J:=Bc B;have O:=Bc z;have Q:=Bc C;clear B z I C;by_cases s:k=0\/k=1\/k=2
 ·rw[Th s]at g;have j:=Bc g;clear g q;rcases s with rfl|rfl|rfl
  all_goals
   go_in;go_wp2;go_ret;exact⟨by rw[<- Ba j];rfl,Em _ _ _ _⟩
 rw[Pk s]at g;by_cases v:k=3;·rw[Th v]at g;subst v;have j:=Bc g;clear g q s;go_in;go_wp2_with fail;refine Qm (Ba O _) ?_;intro K t;go_wp2;go_ret;exact⟨by rw[<- Ba j];rfl,(Em _ _ _ _).trans (t.mono Fr)⟩
 rw[Pk v]at g;by_cases A:k=4
 ·rw[Th A]at g;subst A;cases b with
  | false =>
   have j:=Bc g;clear g q s v;go_in;go_wp2_with fail;refine Qm (Ba J _) ?_;intro K t;go_wp2;go_ret;exact⟨by rw[<- Ba j];rfl,(Em _ _ _ _).trans (t.mono Fr)⟩
  | true =>
   obtain⟨L,V⟩:=q rfl;obtain⟨p,D⟩:=Brp L;subst D;have Y:p<F.size:=Ck;have a9:(p:Int)<(F.size:Int):=Ck;rw[Brx,Ba Q p Y]at g;have j:=Bc g;clear g q s v L V;go_in;go_wp2_with fail;refine Qm (Ba J _) ?_;intro K t;have Z:=stay t (Nz w _ _ _).2.1;have CT:=stay t (Nz w _ _ _).2.2;have m7:=Bb Z 7;have t1:=Bb CT 1;simp at m7 t1;go_wp2;go_ret;exact⟨by rw[<- Ba j];rfl,(Em _ _ _ _).trans (t.mono Fr)⟩
 rw[Pk A]at g;have j:=Bc g;have n0:(k==0)=false:=Fr;have n1:(k==1)=false:=Fr;have n2:(k==2)=false:=Fr;have n3:(k==3)=false:=Fr;have n4:(k==4)=false:=Fr;clear g q s v A;go_in;go_wp2;go_ret;exact⟨by rw[<- Ba j];rfl,Em _ _ _ _⟩
def Cd.frAll(T c:TI)(l:TP):Bool:=l.all fun t=>Cd.framed T c t.1 t.2
def Cd.mapsBad(T c:TI):Nat->Int->List Rd.Mp->Int
 | _,_,[]=>-1
 | i,last,x::r=>if Cd.begB c x.place=false then (i:Int) else if x.place<=last then (i:Int) else if Cd.frAll T c x.locals=false then (i:Int) else if Cd.frAll T c x.stack=false then (i:Int) else Cd.mapsBad T c (i+1) x.place r
def Eh(l:List (Rd.Mp×Value×Value))(k:Nat)(b:k<l.length)(j:Nat)(c:j<3):(Rt l)[k*3+j]?=[Value.int .i64 l[k].1.place,l[k].2.1,l[k].2.2][j]?/\k*3+j<(Rt l).length:=by
 refine⟨Nk (fun x:Rd.Mp×Value×Value=>[Value.int .i64 x.1.place,x.2.1,x.2.2]) 3 (fun _=>rfl) l k b j c,?_⟩;unfold Rt;rw[Kx (fun x:Rd.Mp×Value×Value=>[Value.int .i64 x.1.place,x.2.1,x.2.2]) 3 (fun _=>rfl) l];omega
def Bet(f:RFl)(m:RMV)(h:List (Rd.Mp×Value×Value))(w:TW)(f6:m.code.size<=100000)(h0:m.ml=h.length)(i5:h.length<=1000)(h1:∀p∈h,p.1.locals.length<=1000/\p.1.stack.length<=1000)(hh:K4 w f.bb (.s m.ma m.ml m.mc) h):Calls prog 60 #[f.val,m.val] w fun e b => e=.r (.i (Cd.mapsBad f.T (Ca m.code) 0 (-1) (h.map Prod.fst)))/\Bl w b:=by
 have f7:=fun x w=>Ro m x w f6;have f8:=fun k n w=>Beq f m k n w f6;have f9:=Bu w (O11 f.a1 f.l.length f.c1 f.a2 f.ms.length f.c2) m.obj;have b7:=Cb w (O11 f.a1 f.l.length f.c1 f.a2 f.ms.length f.c2) m.obj;have b8:=Bx w (O11 f.a1 f.l.length f.c1 f.a2 f.ms.length f.c2) m.obj;have g0:∀b,Bl w b->K4 b f.bb (.s m.ma m.ml m.mc) h:=fun b hb=>hh.kp (Kp.of_below (e:=none) hb) Fm Fm;generalize f.T=T at *;generalize hr:Cd.mapsBad T (Ca m.code) 0 (-1) (h.map Prod.fst)=r;have HR:Hid (Cd.mapsBad T (Ca m.code) 0 (-1) ((h.map Prod.fst).drop 0)=r):=hr;clear hr hh;obtain⟨c3,c4,c5,c6,bb,l,ms⟩:=f;obtain⟨cl,nm,pa,pl,pc,r1,r2,lo,st,D,ha,c7,hc,ma,ml,mc,c8,c9⟩:=m;simp only at h0;subst h0;simp only[RMV.val,RMV.obj,RFl.val]at f6 f7 f8 f9 b7 b8 g0 HR ⊢;have h9:=Bc f7;have h2:=Bc f8;have h3:=Bc g0;have h4:=Bc h1;clear f7 f8 g0 h1;go_in;go_wp2
 go_loopw [5,6] (fun u v wr=>∃(k:Nat) (d8:Int),k<=h.length/\v=.i (k:Int)/\u=.i d8/\Hid (Cd.mapsBad T (Ca D) k d8 ((h.map Prod.fst).drop k)=r)/\Bl w wr /\
   wr.heap[w.heap.size]?=some (O11 c3 l.length c4 c5 ms.length c6)/\wr.heap[w.heap.size+1]?=some (O12 cl nm pa pl pc r1 r2 lo st D ha c7 hc ma h.length mc c8 c9))
  (fun _ v _=>h.length-(intOf v).toNat)
 case atStart=>exact⟨0,-1,Ck,rfl,rfl,HR,f9,b7,b8⟩
 case round=>
  clear f9 b7 b8 HR;obtain⟨k,d8,hk,rfl,rfl,HR,hB,F,G⟩:=hrel;obtain⟨J,K,L,N,O,Q,V,Y,m8,m9,a0,a3⟩:=El G;simp at J K L N O Q V Y m8 m9 a0 a3;obtain⟨f0,f1⟩:=cl2 F;simp at f0 f1;have d0:=hB.size;have lF:=Sp F;have j:=Sp G;by_cases a7:k<h.length
  ·have g1:=Ba h3 _ hB;obtain⟨g,hg,i6,_,d9⟩:=Cf g1.1 Ck;have y0:=(d9 _ (Eh h k a7 0 Ck).2).trans (Eh h k a7 0 Ck).1;have y1:=(d9 _ (Eh h k a7 1 Ck).2).trans (Eh h k a7 1 Ck).1;have y2:=(d9 _ (Eh h k a7 2 Ck).2).trans (Eh h k a7 2 Ck).1;obtain⟨f2,f3⟩:=g1.2 _ (Brn a7);obtain⟨i0,i1⟩:=Ba h4 _ (Brn a7);have hd:(h.map Prod.fst).drop k=h[k].1::(h.map Prod.fst).drop (k+1):=by
    rw[Brj (by simpa using a7)];simp
   have hr:=Ba HR;rw[hd,Cd.mapsBad]at hr;generalize h[k]=x at *;obtain⟨⟨a4,z,A⟩,v1,v2⟩:=x;simp only at y0 y1 y2 f2 f3 i0 i1 hr;obtain⟨b1,a9,rfl⟩:=Bh f2;obtain⟨b2,b0,rfl⟩:=Bh f3;simp at y0 y1 y2;have h5:=fun w=>Ba h9 a4 w;generalize Cd.begB (Ca D) a4=B at *;have HB:=Bc h5;have i2:Hid (∀b,Bl wr b->Cq b bb (.s b1 z.length a9) z):=fun b hb=>f2.kp (Kp.of_below (e:=none) hb) Fm;have i3:Hid (∀b,Bl wr b->Cq b bb (.s b2 A.length b0) A):=fun b hb=>f3.kp (Kp.of_below (e:=none) hb) Fm;generalize a5:Cd.frAll T (Ca D) z=LA at *;generalize h6:Cd.frAll T (Ca D) A=SA at *;have b3:Hid (Cd.frAll T (Ca D) (z.drop 0)=LA):=a5;have b4:Hid (Cd.frAll T (Ca D) (A.drop 0)=SA):=h6;have b9:=Bc hr;have i4:(k:Int)<(h.length:Int):=Ck;clear h5 hr hd d9 HR h3 a5 h6 f2 f3 g1 h4;subst hg;have I:=Be wr (O9 a4 b1 z.length a9 b2 A.length b0);have h7:Bl wr (wr.alloc (O9 a4 b1 z.length a9 b2 A.length b0)):=QN _;have b7:=Bg F (O9 a4 b1 z.length a9 b2 A.length b0);have b8:=Bg G (O9 a4 b1 z.length a9 b2 A.length b0)
   rename World=>w1
   go_wp2_with fail;refine Qm (Ba HB _) ?_;intro w2 d1;have b5:Bl w1 w2:=h7.trans (d1.mono Hd);have d2:=stay d1 b7;have d3:=stay d1 b8;have c0:=stay d1 I;clear J K L N O Q V Y m8 m9 a0 a3 f0 f1 y0 y1 y2 d1 F G b7 b8 I h7;obtain⟨x0,x1,x2⟩:=cl3 c0;simp at x0 x1 x2;cases B with
   | false =>
    have HF:Hid ((k:Int)=r):=by unfold Hid;rw[<- Ba b9];simp
    clear b9;go_wp2;go_ret;exact⟨by rw[<- Ba HF];rfl,hB.trans (b5.mono d0)⟩
   | true =>
    by_cases h8:a4<=d8
    ·have HF:Hid ((k:Int)=r):=by unfold Hid;rw[<- Ba b9];simp[h8]
     clear b9;go_wp2;go_ret;exact⟨by rw[<- Ba HF];rfl,hB.trans (b5.mono d0)⟩
    have g3:Hid ((if LA=false then (k:Int) else if SA=false then (k:Int) else Cd.mapsBad T (Ca D) (k+1) a4 ((h.map Prod.fst).drop (k+1)))=r):=by unfold Hid;rw[<- Ba b9];simp[h8]
    clear b9;go_wp2
    go_loopw [9] (fun v wr=>∃q:Nat,q<=z.length/\v=.i (q:Int)/\Hid (Cd.frAll T (Ca D) (z.drop q)=LA)/\Bl w1 wr /\
      wr.heap[w.heap.size]?=some (O11 c3 l.length c4 c5 ms.length c6)/\wr.heap[w.heap.size+1]?=some (O12 cl nm pa pl pc r1 r2 lo st D ha c7 hc (.p g) h.length mc c8 c9)/\wr.heap[w1.heap.size]?=some (O9 a4 b1 z.length a9 b2 A.length b0))
     (fun v _=>z.length-(intOf v).toNat)
    case atStart=>exact⟨0,Ck,rfl,b3,b5,d2,d3,c0⟩
    case round=>
     clear b3 b5 d2 d3 c0 x0 x1 x2;obtain⟨q,hq,rfl,b3,a6,F,G,I⟩:=hrel;obtain⟨J,K,L,N,O,Q,V,Y,m8,m9,a0,a3⟩:=El G;simp at J K L N O Q V Y m8 m9 a0 a3;obtain⟨f0,f1⟩:=cl2 F;obtain⟨x0,x1,x2⟩:=cl3 I;simp at f0 f1 x0 x1 x2;have f4:=Sp F;have f5:=Sp G;have lX:=Sp I;by_cases d4:q<z.length
     ·obtain⟨g2,g4,g5,_,b6⟩:=Cf (Ba i2 _ a6) Ck;obtain⟨e1,e2,e3⟩:=Fu z q d4;have u0:=(b6 (q*2) Ck).trans e1;have u1:=(b6 (q*2+1) Ck).trans e2;have d5:z.drop q=z[q]::z.drop (q+1):=Brj d4;have hA:=Ba b3;unfold Cd.frAll at hA;rw[d5,Bw3]at hA;generalize z[q]=t at *;obtain⟨t1,t2⟩:=t;simp only at u0 u1 hA;have d6:=fun w=>Ba h2 t1 t2 w;generalize Cd.framed T (Ca D) t1 t2=Z at *;have HZ:=Bc d6;have a8:=Bc hA;have qb:(q:Int)<(z.length:Int):=Ck;clear d6 hA d5 e1 e2 e3 b6 b3;subst g4;have lF:w.heap.size<wr.heap.size:=f4;have j:w.heap.size+1<wr.heap.size:=f5;have lG:g2<wr.heap.size:=g5;go_wp2
      go_region_held3 (fun b=>b.C w.heap.size 0 (.s c3 l.length c4)/\b.C w.heap.size 1 (.s c5 ms.length c6)/\b.C (w.heap.size+1) 0 (.i cl)/\b.C (w.heap.size+1) 1 (.i nm)/\b.C (w.heap.size+1) 2 (.s pa pl pc)/\b.C (w.heap.size+1) 3 (.i r1)/\b.C (w.heap.size+1) 4 (.i r2)/\b.C (w.heap.size+1) 5 (.i lo)/\b.C (w.heap.size+1) 6 (.i st)/\b.C (w.heap.size+1) 7 (.string D)/\b.C (w.heap.size+1) 8 (.s ha c7 hc)/\b.C (w.heap.size+1) 9 (.s (.p g) h.length mc)/\b.C (w.heap.size+1) 10 (.i c8)/\b.C (w.heap.size+1) 11 (.i c9)/\b.C w1.heap.size 1 (.s (.p g2) z.length a9)/\b.C g2 (q*2) (.i t1)/\b.C g2 (q*2+1) (.i t2))
       (first|exact⟨f0,f1,J,K,L,N,O,Q,V,Y,m8,m9,a0,a3,x1,u0,u1⟩|exact⟨QC c lF f0,QC c lF f1,QC c j J,QC c j K,QC c j L,QC c j N,QC c j O,QC c j Q,QC c j V,QC c j Y,QC c j m8,QC c j m9,QC c j a0,QC c j a3,QC c lX x1,QC c lG u0,QC c lG u1⟩)
       (first|(go_at_call 97;refine(Ba HZ _).mono ?_;rintro e w7 ⟨rfl,c⟩))
      have d7:Bl w1 w7:=a6.drew.trans (c.mono a6.size);have g6:=stay c (show (wr.drew).heap[w.heap.size]?=_ from F);have g7:=stay c (show (wr.drew).heap[w.heap.size+1]?=_ from G);have g8:=stay c (show (wr.drew).heap[w1.heap.size]?=_ from I);clear c J K L N O Q V Y m8 m9 a0 a3 f0 f1 x0 x1 x2 u0 u1 F G I a6 lF j lG;cases Z with
      | false =>
       have a5:LA=false:=by rw[<- Ba a8];simp
       have HF:Hid ((k:Int)=r):=by unfold Hid;rw[<- Ba g3,a5];simp
       clear a8;go_wp2;go_ret;exact⟨by rw[<- Ba HF];rfl,hB.trans (d7.mono d0)⟩
      | true =>
       have HG:Hid (Cd.frAll T (Ca D) (z.drop (q+1))=LA):=by unfold Hid Cd.frAll;rw[<- Ba a8];simp
       clear a8;go_wp2;go_roundw
       case rel=>exact⟨q+1,Ck,Mg,HG,d7,g6,g7,g8⟩
       case measure=>simp[intOf];omega
     have a5:LA=true:=by rw[<- Ba b3,Brq Ck];rfl
     have qb:¬(q:Int)<(z.length:Int):=Ck;clear b3;have g9:Hid ((if SA=false then (k:Int) else Cd.mapsBad T (Ca D) (k+1) a4 ((h.map Prod.fst).drop (k+1)))=r):=by unfold Hid;rw[<- Ba g3,a5];simp
     have b5:=a6;have d2:=F;have d3:=G;have c0:=I;clear g3 a5 a6 F G I J K L N O Q V Y m8 m9 a0 a3 f0 f1 f4 f5 lX;go_wp2
     go_loopw [11] (fun v wr=>∃q:Nat,q<=A.length/\v=.i (q:Int)/\Hid (Cd.frAll T (Ca D) (A.drop q)=SA)/\Bl w1 wr /\
       wr.heap[w.heap.size]?=some (O11 c3 l.length c4 c5 ms.length c6)/\wr.heap[w.heap.size+1]?=some (O12 cl nm pa pl pc r1 r2 lo st D ha c7 hc (.p g) h.length mc c8 c9)/\wr.heap[w1.heap.size]?=some (O9 a4 b1 z.length a9 b2 A.length b0))
      (fun v _=>A.length-(intOf v).toNat)
     case atStart=>exact⟨0,Ck,rfl,b4,b5,d2,d3,c0⟩
     case round=>
      clear b4 b5 d2 d3 c0 x0 x1 x2;obtain⟨q,hq,rfl,b4,a6,F,G,I⟩:=hrel;obtain⟨J,K,L,N,O,Q,V,Y,m8,m9,a0,a3⟩:=El G;simp at J K L N O Q V Y m8 m9 a0 a3;obtain⟨f0,f1⟩:=cl2 F;obtain⟨x0,x1,x2⟩:=cl3 I;simp at f0 f1 x0 x1 x2;have f4:=Sp F;have f5:=Sp G;have lX:=Sp I;by_cases d4:q<A.length
      ·obtain⟨g2,g4,g5,_,b6⟩:=Cf (Ba i3 _ a6) Ck;obtain⟨e1,e2,e3⟩:=Fu A q d4;have u0:=(b6 (q*2) Ck).trans e1;have u1:=(b6 (q*2+1) Ck).trans e2;have d5:A.drop q=A[q]::A.drop (q+1):=Brj d4;have hA:=Ba b4;unfold Cd.frAll at hA;rw[d5,Bw3]at hA;generalize A[q]=t at *;obtain⟨t1,t2⟩:=t;simp only at u0 u1 hA;have d6:=fun w=>Ba h2 t1 t2 w;generalize Cd.framed T (Ca D) t1 t2=Z at *;have HZ:=Bc d6;have a8:=Bc hA;have qb:(q:Int)<(A.length:Int):=Ck;clear d6 hA d5 e1 e2 e3 b6 b4;subst g4;have lF:w.heap.size<wr.heap.size:=f4;have j:w.heap.size+1<wr.heap.size:=f5;have lG:g2<wr.heap.size:=g5;go_wp2
       go_region_held3 (fun b=>b.C w.heap.size 0 (.s c3 l.length c4)/\b.C w.heap.size 1 (.s c5 ms.length c6)/\b.C (w.heap.size+1) 0 (.i cl)/\b.C (w.heap.size+1) 1 (.i nm)/\b.C (w.heap.size+1) 2 (.s pa pl pc)/\b.C (w.heap.size+1) 3 (.i r1)/\b.C (w.heap.size+1) 4 (.i r2)/\b.C (w.heap.size+1) 5 (.i lo)/\b.C (w.heap.size+1) 6 (.i st)/\b.C (w.heap.size+1) 7 (.string D)/\b.C (w.heap.size+1) 8 (.s ha c7 hc)/\b.C (w.heap.size+1) 9 (.s (.p g) h.length mc)/\b.C (w.heap.size+1) 10 (.i c8)/\b.C (w.heap.size+1) 11 (.i c9)/\b.C w1.heap.size 2 (.s (.p g2) A.length b0)/\b.C g2 (q*2) (.i t1)/\b.C g2 (q*2+1) (.i t2))
        (first|exact⟨f0,f1,J,K,L,N,O,Q,V,Y,m8,m9,a0,a3,x2,u0,u1⟩|exact⟨QC c lF f0,QC c lF f1,QC c j J,QC c j K,QC c j L,QC c j N,QC c j O,QC c j Q,QC c j V,QC c j Y,QC c j m8,QC c j m9,QC c j a0,QC c j a3,QC c lX x2,QC c lG u0,QC c lG u1⟩)
        (first|(go_at_call 97;refine(Ba HZ _).mono ?_;rintro e w7 ⟨rfl,c⟩))
       have d7:Bl w1 w7:=a6.drew.trans (c.mono a6.size);have g6:=stay c (show (wr.drew).heap[w.heap.size]?=_ from F);have g7:=stay c (show (wr.drew).heap[w.heap.size+1]?=_ from G);have g8:=stay c (show (wr.drew).heap[w1.heap.size]?=_ from I);clear c J K L N O Q V Y m8 m9 a0 a3 f0 f1 x0 x1 x2 u0 u1 F G I a6 lF j lG;cases Z with
       | false =>
        have a5:SA=false:=by rw[<- Ba a8];simp
        have HF:Hid ((k:Int)=r):=by unfold Hid;rw[<- Ba g9,a5];simp
        clear a8;go_wp2;go_ret;exact⟨by rw[<- Ba HF];rfl,hB.trans (d7.mono d0)⟩
       | true =>
        have HG:Hid (Cd.frAll T (Ca D) (A.drop (q+1))=SA):=by unfold Hid Cd.frAll;rw[<- Ba a8];simp
        clear a8;go_wp2;go_roundw
        case rel=>exact⟨q+1,Ck,Mg,HG,d7,g6,g7,g8⟩
        case measure=>simp[intOf];omega
      have a5:SA=true:=by rw[<- Ba b4,Brq Ck];rfl
      have qb:¬(q:Int)<(A.length:Int):=Ck;clear b4;have HG:Hid (Cd.mapsBad T (Ca D) (k+1) a4 ((h.map Prod.fst).drop (k+1))=r):=by unfold Hid;rw[<- Ba g9,a5];simp
      clear g9 a5;go_wp2;go_roundw
      case rel=>exact⟨k+1,_,Ck,Mg,rfl,HG,hB.trans (a6.mono d0),F,G⟩
      case measure=>simp[intOf];omega
  have hf:r = -1:=by rw[<- Ba HR,Brq Fr];rfl
  have HF:=Bc hf;have i4:¬(k:Int)<(h.length:Int):=Ck;clear hf HR;go_wp2;go_ret;exact⟨by rw[Ba HF];rfl,hB⟩
def Tj{α:Type}[DecidableEq α]{a b:List α}{k:Nat}(c:k<a.length)(e:k<b.length):decide (a.drop k=b.drop k)=(decide (a[k]=b[k])&&decide (a.drop (k+1)=b.drop (k+1))):=by
 rw[Brj c,Brj e];simp only[List.cons.injEq];exact Bool.decide_and _ _
def Bjd(b c:TP)(C D:TA)(F G b1 b2:Nat)(w:TW)(ha:Cq w b1 (.s C b.length F) b)(hb:Cq w b2 (.s D c.length G) c)(hl:b.length<=1000)(a6:c.length<=1000):Calls prog 92 #[.s C b.length F,.s D c.length G] w fun e w'=>e=.r (.bool (decide (b=c)))/\Bl w w':=by
 by_cases t:b.length=c.length
 ·generalize f:decide (b=c)=r;have j:Hid (decide (b.drop 0=c.drop 0)=r):=f;clear f;have a3:((b.length:Int) != (c.length:Int))=false:=Fr;have I:=Bc t;clear t;go_in;go_wp2
  go_loopw [5] (fun v wr=>∃k:Nat,k<=b.length/\v=.i (k:Int)/\Hid (decide (b.drop k=c.drop k)=r)/\Bl w wr)
   (fun v _=>b.length-(intOf v).toNat)
  case atStart=>exact⟨0,Ck,rfl,j,Brm _ _⟩
  case round=>
   clear j;obtain⟨k,hk,rfl,j,l⟩:=hrel;by_cases J:k<b.length
   ·have K:k<c.length:=by have:=Ba I;omega
    obtain⟨g,hg,a7,_,A⟩:=Cf (ha.kp (Kp.of_below (e:=none) l) Fm) Ck;obtain⟨g2,a4,a8,_,B⟩:=Cf (hb.kp (Kp.of_below (e:=none) l) Fm) Ck;obtain⟨L,N,t3⟩:=Fu b k J;obtain⟨O,Q,s3⟩:=Fu c k K;have u0:=(A (k*2) Ck).trans L;have u1:=(A (k*2+1) Ck).trans N;have v0:=(B (k*2) Ck).trans O;have v1:=(B (k*2+1) Ck).trans Q;have f:=Ba j;rw[Tj J K]at f;generalize b[k]=x at *;generalize c[k]=y at *;obtain⟨V,Y⟩:=x;obtain⟨Z,y2⟩:=y;simp only[Prod.mk.injEq]at u0 u1 v0 v1 f;have a5:(k:Int)<(b.length:Int):=Ck;have a9:(k:Int)<(c.length:Int):=Ck;have z:=Bc f;clear f j A B L N t3 O Q s3;subst hg a4;by_cases p:V=Z/\Y=y2
    ·obtain⟨rfl,rfl⟩:=p;have m:Hid (decide (b.drop (k+1)=c.drop (k+1))=r):=by unfold Hid;rw[<- Ba z];simp
     clear z;go_wp2
     go_region
     all_goals
      go_wp2;go_roundw
      case rel=>exact⟨k+1,Ck,Mg,m,l.drew⟩
      case measure=>simp[intOf];omega
    have q:r=false:=by rw[<- Ba z];simp[p]
    have m:=Bc q;clear z q;by_cases h1:V=Z
    ·subst h1;have h2:¬Y=y2:=fun h=>p ⟨rfl,h⟩;clear p;go_wp2
     go_region
     all_goals
      go_wp2;go_ret;exact⟨by rw[Ba m];rfl,l.drew⟩
    clear p;go_wp2
    go_region
    all_goals
     go_wp2;go_ret;exact⟨by rw[Ba m];rfl,l.drew⟩
   have q:r=true:=by
    rw[<- Ba j,Brq Ck,Brq (by have:=Ba I;omega)];rfl
   have m:=Bc q;have a5:¬(k:Int)<(b.length:Int):=Ck;clear q j;go_wp2;go_ret;exact⟨by rw[Ba m];rfl,l⟩
 have a0:b≠c:=fun h=>t (by rw[h]);have hd:decide (b=c)=false:=by simp[a0]
 rw[hd];have a3:((b.length:Int) != (c.length:Int))=true:=Fr;clear t a0;go_in;go_wp2;go_ret;exact⟨rfl,Brm _ _⟩
def RMV.list(m:RMV):List Value:=[.int .i64 m.cl,.int .i64 m.nm,.slice m.pa m.pl m.pc,.int .i64 m.r1,.int .i64 m.r2,.int .i64 m.lo,.int .i64 m.st,.string m.code,.slice m.ha m.hl m.hc,.slice m.ma m.ml m.mc,.int .i64 m.mAt,.int .i64 m.fin]
structure RMV.is(m:RMV)(x:Rf.Mth)(w:World)(bb:Nat):Prop where
 cl:m.cl=x.m.cl
 nm:m.nm=x.m.name
 r1:m.r1=x.m.result.1
 r2:m.r2=x.m.result.2
 lo:m.lo=x.m.locals
 st:m.st=x.m.stack
 mAt:m.mAt=x.mapsAt
 fin:m.fin=x.fin
 pl:m.pl=x.m.params.length
 ps:Cq w bb (.slice m.pa m.pl m.pc) x.m.params
 code:Ca m.code=x.m.code
 hl:m.hl=x.m.handlers.length
 hs:Iz w bb (.slice m.ha m.hl m.hc) x.m.handlers
 ml:m.ml=x.m.maps.length
 mp:Blf w bb (.slice m.ma m.ml m.mc) x.m.maps
def RMV.is.below{m:RMV}{x:Rf.Mth}{w s:TW}{u:Nat}(h:m.is x w u)(b:Bl w s):m.is x s u:=by
 obtain⟨c,f,g,i,j,p,q,t,v,z,A,B,C,D,l,F,G⟩:=h;exact⟨c,f,g,i,j,p,q,t,v,z.kp (Kp.of_below (e:=none) b) Fm,A,B,C.kp (Kp.of_below (e:=none) b) Fm,D,l,F,G.kp (Kp.of_below (e:=none) b) Fm Fm⟩
theorem RFl.mth{f:RFl}{w:World}(z:f.ok w){k:Nat}(l:k<f.ms.length):∃(m:RMV) (g:Nat),f.a2=some ⟨g,0,none⟩/\g<w.heap.size/\(∀j v,m.list[j]?=some v->w.cell? ⟨g,k*12+j,none⟩=some v)/\m.is f.ms[k].1 w f.bb:=by
 obtain⟨A,B⟩:=z.2.2.2.2.2;obtain⟨g,C,D,_,F⟩:=Cf A Ck;obtain⟨b,p,c,e,q,h⟩:=B _ (Brn l);have s:=fun j i=>Av f.ms k l j i;generalize f.ms[k]=x at *;obtain⟨x,u⟩:=x;obtain⟨Z,G,uh,um⟩:=u;simp only at b p c h s;obtain⟨I,J,rfl⟩:=Bh b;obtain⟨K,L,rfl⟩:=Bh c;obtain⟨N,O,rfl⟩:=Bh h.1;have Q:e.length=x.m.maps.length:=by rw[<- q];simp
 refine⟨⟨x.m.cl,x.m.name,I,x.m.params.length,J,x.m.result.1,x.m.result.2,x.m.locals,x.m.stack,G,K,x.m.handlers.length,L,N,e.length,O,x.mapsAt,x.fin⟩,g,C,D,?_,⟨rfl,rfl,rfl,rfl,rfl,rfl,rfl,rfl,rfl,b,p,rfl,c,Q,e,q,h⟩⟩;intro j v t;have i:j<12:=by
  have:=(List.getElem?_eq_some_iff.1 t).1;simpa[RMV.list] using this
 obtain⟨V,Y⟩:=s j i;rw[F _ Y,V,<- t];rfl
def Mi (T:TI)(cl nm r1 r2:Int)(ps:TP)(k i:Nat)(x:Rd.Mth):Bool :=
 if x.name≠nm then false else if x.cl=255 then false else if x.cl=cl then decide (i<k)
 else Tr.rbel T cl x.cl&&(!decide (x.params=ps) || !decide (x.result=(r1,r2)))
def Im (T:TI)(cl nm r1 r2:Int)(ps:TP)(k:Nat):Nat->List Rd.Mth->Bool
 | _,[]=>true
 | i,x::r=>if Mi T cl nm r1 r2 ps k i x=true then false else Im T cl nm r1 r2 ps k (i+1) r
def Vf (T:TI)(cl nm r1 r2:Int):Bool :=
 (if cl=255 then !decide (nm=0) else (!Tr.hasB T cl || decide (cl<7))) || (!Tr.plainB T r1 r2 && !decide ((r1,r2)=(0,0)))
def Lv (cl lo:Int)(ps:TP):Bool:=decide (lo<(ps.length:Int)) || (!decide (cl=255)&&decide (lo=(ps.length:Int)))
def On (T:TI)(ms:List Rd.Mth)(k:Nat)(cl nm r1 r2 lo:Int)(ps:TP):Bool :=
 if Vf T cl nm r1 r2=true then false else if Tr.allPlainB T ps=false then false else if Lv cl lo ps=true then false
 else if cl=255 then true else Im T cl nm r1 r2 ps k 0 ms
def Oe{m:RMV}{w:TW}{u k:Nat}(h:∀j v,m.list[j]?=some v->w.C u (k*12+j) v):w.C u (k*12) (.i m.cl)/\w.C u (k*12+1) (.i m.nm)/\w.C u (k*12+2) (.s m.pa m.pl m.pc)/\w.C u (k*12+3) (.i m.r1)/\w.C u (k*12+4) (.i m.r2)/\w.C u (k*12+5) (.i m.lo)/\w.C u (k*12+6) (.i m.st)/\w.C u (k*12+7) (.string m.code)/\w.C u (k*12+8) (.s m.ha m.hl m.hc)/\w.C u (k*12+9) (.s m.ma m.ml m.mc)/\w.C u (k*12+10) (.i m.mAt)/\w.C u (k*12+11) (.i m.fin) :=
 ⟨h 0 _ rfl,h 1 _ rfl,h 2 _ rfl,h 3 _ rfl,h 4 _ rfl,h 5 _ rfl,h 6 _ rfl,h 7 _ rfl,h 8 _ rfl,h 9 _ rfl,h 10 _ rfl,h 11 _ rfl⟩
def Bjj(f:RFl)(k:Nat)(w:TW)(hf:f.ok w)(hk:k<f.ms.length)(h1:∀p∈f.ms,p.1.m.params.length<=1000):Calls prog 57 #[f.val,.i (k:Int)] w fun e z => e=.r (.bool (On f.T (f.ms.map fun p=>p.1.m) k f.ms[k].1.m.cl f.ms[k].1.m.name f.ms[k].1.m.result.1 f.ms[k].1.m.result.2 f.ms[k].1.m.locals f.ms[k].1.m.params))/\Bl w z:=by
 obtain⟨m,g,hg,q2,h2,o1⟩:=RFl.mth hf hk;have k5:=h1 _ (Brn hk);have o2:f.ms.length<=6:=hf.2.2.1;replace h2:=Oe h2;obtain⟨d1,d2,d3,d4,k6,-,-,-,d5,k7,-,-,-,-,-⟩:=o1;rw[<- d1,<- d2,<- d3,<- d4,<- k6];generalize f.ms[k].1.m.params=b at *;have h3:=fun x w=>L9 f.T f.a1 f.a2 f.c1 f.ms.length f.c2 x w;have d6:=fun x y w=>Vo f.T f.a1 f.a2 f.c1 f.ms.length f.c2 x y w;have h4:=fun x y w (h:f.ok w)=>J9 f.a1 f.a2 f.c1 f.ms.length f.c2 f.bb f.l x y w (by have:=h.1;omega) h.2.2.2.2.1;have k8:f.T.length=f.l.length:=Jn _;rw[k8]at h3 d6;have k9:Ct f.l=f.T:=rfl;rw[k9]at h4;have l0:∀z,Bl w z->f.ok z:=fun z hb=>hf.below hb;have j1:∀z i (hi:i<f.ms.length),Bl w z->∃(m:RMV) (g:Nat),f.a2=some ⟨g,0,none⟩/\g<z.heap.size/\(∀j v,m.list[j]?=some v->z.C g (i*12+j) v)/\m.is f.ms[i].1 z f.bb:=fun z i hi hb=>RFl.mth (hf.below hb) hi;have j2:∀z,Bl w z->Cq z f.bb (.s m.pa m.pl m.pc) b:=fun z hb=>k7.kp (Kp.of_below (e:=none) hb) Fm;generalize f.T=T at *;clear hf k7 d1 d2 d3 d4 k6 k8 k9;obtain⟨b3,b4,q3,b5,bb,l,c⟩:=f;obtain⟨D,nm,pa,pl,pc,A,B,lo,st,c6,ha,hl,hc,ma,ml,mc,c7,c8⟩:=m;simp only at d5 hg hk;subst d5 hg;simp only[RFl.val]at h3 d6 h4 h2 j2 k5 h1 j1 o2 ⊢;obtain⟨y0,y1,y2,y3,y4,y5,y6,y7,y8,y9,o3,o4⟩:=h2;have q4:(k:Int)<(c.length:Int):=Ck;have l1:=fun w=>h3 D w;have l2:=fun w=>d6 A B w;generalize G:On T (c.map fun p=>p.1.m) k D nm A B lo b=R;unfold On Vf at G;generalize Tr.hasB T D=K at *;generalize Tr.plainB T A B=P at *;have o5:=Bc l1;have o6:=Bc l2;have l3:=Bc d6;have o7:=Bc h4;have o8:=Bc l0;have o9:=Bc j1;have j3:=Bc j2;have p0:=Bc h1;clear l1 l2 h3 d6 h4 l0 j1 j2 h1;have l4:=Bu w (O11 b3 l.length b4 (.p g) c.length b5) (O12 D nm pa b.length pc A B lo st c6 ha hl hc ma ml mc c7 c8);have l5:=Cb w (O11 b3 l.length b4 (.p g) c.length b5) (O12 D nm pa b.length pc A B lo st c6 ha hl hc ma ml mc c7 c8);have l6:=Bx w (O11 b3 l.length b4 (.p g) c.length b5) (O12 D nm pa b.length pc A B lo st c6 ha hl hc ma ml mc c7 c8);go_in;go_wp2_with fail;refine Qm (Ba o5 _) ?_;intro w1 h5;have l7:=l4.trans (h5.mono Fr);have j4:=stay h5 l5;have d7:=stay h5 l6;clear h5 l4 l5 l6 y0 y1 y2 y3 y4 y5 y6 y7 y8 y9 o3 o4;obtain⟨N,O⟩:=cl2 j4;obtain⟨m0,m1⟩:=cl2 d7;have I:=Bb d7 3;have J:=Bb d7 4;simp at N O m0 m1 I J;go_wp2_with fail;refine Qb (Ba o6 _) l7 ?_;intro w2 j5 b0;have d8:=stay j5 j4;have d9:=stay j5 d7;clear j5 l7 j4 d7 N O m0 m1 I J;obtain⟨m0,m1,Q,I,J,m5,m6,m7,m8,m9,a4,a5⟩:=El d9;simp at m0 m1 Q I J m5 m6 m7 m8 m9 a4 a5;obtain⟨N,O⟩:=cl2 d8;simp at N O;by_cases a7:D=255
 ·subst a7;by_cases l8:nm=0
  ·subst l8;obtain hg|⟨rfl,hg⟩:(P=true\/P=false/\A=0/\B=0)\/(P=false/\¬(A=0/\B=0)):=by cases P<;>simp<;>omega
   ·rcases hg with rfl|⟨rfl,e1,e2⟩
    all_goals
     generalize f2:Tr.allPlainB T b=AP at G;have a3:Hid (Tr.allPlainB T (b.drop 0)=AP):=f2;clear f2;have b9:Hid ((if AP=false then false else if Lv 255 lo b=true then false else if (255:Int)=255 then true else Im T 255 0 A B b k 0 (c.map fun p=>p.1.m))=R):=by
      unfold Hid;rw[<- G]
      first|(simp ;done)|simp[e1,e2]
     try (have z1:(A==0)=true:=by simp[e1];have z2:(B==0)=true:=by simp[e2];clear e1 e2)
     clear G;go_wp2
     go_loopw [9] (fun v wr=>∃q:Nat,q<=b.length/\v=.i (q:Int)/\Hid (Tr.allPlainB T (b.drop q)=AP)/\Bl w wr/\wr.heap[w.heap.size]?=some (O11 b3 l.length b4 (.p g) c.length b5)/\wr.heap[w.heap.size+1]?=some (O12 255 0 pa b.length pc A B lo st c6 ha hl hc ma ml mc c7 c8))
      (fun v _=>b.length-(intOf v).toNat)
     case atStart=>exact⟨0,Ck,rfl,a3,b0,d8,d9⟩
     case round=>
      clear a3 b0 d8 d9 N O m0 m1 Q I J m5 m6 m7 m8 m9 a4 a5;obtain⟨q,hq,rfl,a3,L,CF,CM⟩:=hrel;obtain⟨m0,m1,Q,I,J,m5,m6,m7,m8,m9,a4,a5⟩:=El CM;simp at m0 m1 Q I J m5 m6 m7 m8 m9 a4 a5;obtain⟨N,O⟩:=cl2 CF;simp at N O;have lF:w.heap.size<wr.heap.size:=Sp CF;have lM:w.heap.size+1<wr.heap.size:=Sp CM;have c0:=L.size;by_cases f3:q<b.length
      ·obtain⟨g2,j6,j7,_,c3⟩:=Cf (Ba j3 _ L) Ck;obtain⟨e1,e2,e3⟩:=Fu b q f3;have u0:=(c3 (q*2) Ck).trans e1;have u1:=(c3 (q*2+1) Ck).trans e2;have f4:b.drop q=b[q]::b.drop (q+1):=Brj f3;have hA:=Ba a3;rw[f4,Of]at hA;generalize b[q]=t at *;obtain⟨t1,t2⟩:=t;simp only at u0 u1 hA;have f5:=fun w=>Ba l3 t1 t2 w;generalize Tr.plainB T t1 t2=Z at *;have HZ:=Bc f5;have b2:=Bc hA;have qb:(q:Int)<(b.length:Int):=Ck;have lG:g2<wr.heap.size:=j7;clear f5 hA f4 e1 e2 e3 c3 a3;subst j6;go_wp2
       go_region_held3 (fun z=>z.C w.heap.size 0 (.s b3 l.length b4)/\z.C w.heap.size 1 (.s (.p g) c.length b5)/\z.C (w.heap.size+1) 2 (.s (.p g2) b.length pc)/\z.C g2 (q*2) (.i t1)/\z.C g2 (q*2+1) (.i t2))
        (first|exact⟨N,O,Q,u0,u1⟩|exact⟨QC V lF N,QC V lF O,QC V lM Q,QC V lG u0,QC V lG u1⟩)
        (first|(go_at_call 90;refine(Ba HZ _).mono ?_;rintro e w7 ⟨rfl,V⟩))
       have f6:Bl w w7:=L.drew.trans (V.mono c0);have j8:=stay V (show (wr.drew).heap[w.heap.size]?=_ from CF);have j9:=stay V (show (wr.drew).heap[w.heap.size+1]?=_ from CM);clear V m0 m1 Q I J m5 m6 m7 m8 m9 a4 a5 N O u0 u1 CF CM L lF lM lG;cases Z with
       | false =>
        have b1:AP=false:=by rw[<- Ba b2];simp
        have F:Hid (R=false):=by unfold Hid;rw[<- Ba b9,b1];simp
        clear b2 b1;go_wp2;go_ret;exact⟨by rw[Ba F];rfl,f6⟩
       | true =>
        have HG:Hid (Tr.allPlainB T (b.drop (q+1))=AP):=by unfold Hid;rw[<- Ba b2];simp
        clear b2;go_wp2;go_roundw
        case rel=>exact⟨q+1,Ck,Mg,HG,f6,j8,j9⟩
        case measure=>simp[intOf];omega
      have b1:AP=true:=by rw[<- Ba a3,Brq Ck];rfl
      have qb:¬(q:Int)<(b.length:Int):=Ck;have a6:=Ba b9;rw[b1,Pk Hd]at a6;clear a3 b1 b9;by_cases f7:lo<(b.length:Int)
      ·have F:Hid (R=false):=by unfold Hid;rw[<- a6];simp[Lv,f7]
       clear a6;go_wp2;go_ret;exact⟨by rw[Ba F];rfl,L⟩
      have F:Hid (R=true):=by unfold Hid;rw[<- a6];simp[Lv,f7]
      clear a6;go_wp2
      go_loopw [11] (fun v p1=>v=.i 0/\p1=wr) (fun _ _=>0)
      case atStart=>exact⟨rfl,rfl⟩
      case round=>
       obtain⟨rfl,rfl⟩:=hrel;go_wp2;go_ret;exact⟨by rw[Ba F];rfl,L⟩
   by_cases f8:A=0
   ·subst f8;have k0:¬B=0:=fun h=>hg ⟨rfl,h⟩;clear hg;have F:Hid (R=false):=by unfold Hid;rw[<- G];simp[k0]
    clear G;go_wp2;go_ret;exact⟨by rw[Ba F];rfl,b0⟩
   clear hg;have F:Hid (R=false):=by unfold Hid;rw[<- G];simp[f8]
   clear G;go_wp2;go_ret;exact⟨by rw[Ba F];rfl,b0⟩
  have F:Hid (R=false):=by unfold Hid;rw[<- G];simp[l8]
  clear G;go_wp2;go_ret;exact⟨by rw[Ba F];rfl,b0⟩
 have q5:(D != 255)=true:=by simp[a7]
 cases K with
 | false =>
  have F:Hid (R=false):=by unfold Hid;rw[<- G];simp[a7]
  clear G;go_wp2;go_ret;exact⟨by rw[Ba F];rfl,b0⟩
 | true =>
  by_cases h7:D<7
  ·have F:Hid (R=false):=by unfold Hid;rw[<- G];simp[a7,h7]
   clear G;go_wp2;go_ret;exact⟨by rw[Ba F];rfl,b0⟩
  obtain hg|⟨rfl,hg⟩:(P=true\/P=false/\A=0/\B=0)\/(P=false/\¬(A=0/\B=0)):=by cases P<;>simp<;>omega
  ·rcases hg with rfl|⟨rfl,e1,e2⟩
   all_goals
    generalize f2:Tr.allPlainB T b=AP at G;have a3:Hid (Tr.allPlainB T (b.drop 0)=AP):=f2;clear f2;have b9:Hid ((if AP=false then false else if Lv D lo b=true then false else if D=255 then true else Im T D nm A B b k 0 (c.map fun p=>p.1.m))=R):=by
     unfold Hid;rw[<- G]
     first|(simp[a7,h7];done)|simp[a7,h7,e1,e2]
    try (have z1:(A==0)=true:=by simp[e1];have z2:(B==0)=true:=by simp[e2];clear e1 e2)
    clear G;go_wp2
    go_loopw [9] (fun v wr=>∃q:Nat,q<=b.length/\v=.i (q:Int)/\Hid (Tr.allPlainB T (b.drop q)=AP)/\Bl w wr/\wr.heap[w.heap.size]?=some (O11 b3 l.length b4 (.p g) c.length b5)/\wr.heap[w.heap.size+1]?=some (O12 D nm pa b.length pc A B lo st c6 ha hl hc ma ml mc c7 c8))
     (fun v _=>b.length-(intOf v).toNat)
    case atStart=>exact⟨0,Ck,rfl,a3,b0,d8,d9⟩
    case round=>
     clear a3 b0 d8 d9 N O m0 m1 Q I J m5 m6 m7 m8 m9 a4 a5;obtain⟨q,hq,rfl,a3,L,CF,CM⟩:=hrel;obtain⟨m0,m1,Q,I,J,m5,m6,m7,m8,m9,a4,a5⟩:=El CM;simp at m0 m1 Q I J m5 m6 m7 m8 m9 a4 a5;obtain⟨N,O⟩:=cl2 CF;simp at N O;have lF:w.heap.size<wr.heap.size:=Sp CF;have lM:w.heap.size+1<wr.heap.size:=Sp CM;have c0:=L.size;by_cases f3:q<b.length
     ·obtain⟨g2,j6,j7,_,c3⟩:=Cf (Ba j3 _ L) Ck;obtain⟨e1,e2,e3⟩:=Fu b q f3;have u0:=(c3 (q*2) Ck).trans e1;have u1:=(c3 (q*2+1) Ck).trans e2;have f4:b.drop q=b[q]::b.drop (q+1):=Brj f3;have hA:=Ba a3;rw[f4,Of]at hA;generalize b[q]=t at *;obtain⟨t1,t2⟩:=t;simp only at u0 u1 hA;have f5:=fun w=>Ba l3 t1 t2 w;generalize Tr.plainB T t1 t2=Z at *;have HZ:=Bc f5;have b2:=Bc hA;have qb:(q:Int)<(b.length:Int):=Ck;have lG:g2<wr.heap.size:=j7;clear f5 hA f4 e1 e2 e3 c3 a3;subst j6;go_wp2
      go_region_held3 (fun z=>z.C w.heap.size 0 (.s b3 l.length b4)/\z.C w.heap.size 1 (.s (.p g) c.length b5)/\z.C (w.heap.size+1) 2 (.s (.p g2) b.length pc)/\z.C g2 (q*2) (.i t1)/\z.C g2 (q*2+1) (.i t2))
       (first|exact⟨N,O,Q,u0,u1⟩|exact⟨QC V lF N,QC V lF O,QC V lM Q,QC V lG u0,QC V lG u1⟩)
       (first|(go_at_call 90;refine(Ba HZ _).mono ?_;rintro e w7 ⟨rfl,V⟩))
      have f6:Bl w w7:=L.drew.trans (V.mono c0);have j8:=stay V (show (wr.drew).heap[w.heap.size]?=_ from CF);have j9:=stay V (show (wr.drew).heap[w.heap.size+1]?=_ from CM);clear V m0 m1 Q I J m5 m6 m7 m8 m9 a4 a5 N O u0 u1 CF CM L lF lM lG;cases Z with
      | false =>
       have b1:AP=false:=by rw[<- Ba b2];simp
       have F:Hid (R=false):=by unfold Hid;rw[<- Ba b9,b1];simp
       clear b2 b1;go_wp2;go_ret;exact⟨by rw[Ba F];rfl,f6⟩
      | true =>
       have HG:Hid (Tr.allPlainB T (b.drop (q+1))=AP):=by unfold Hid;rw[<- Ba b2];simp
       clear b2;go_wp2;go_roundw
       case rel=>exact⟨q+1,Ck,Mg,HG,f6,j8,j9⟩
       case measure=>simp[intOf];omega
     have b1:AP=true:=by rw[<- Ba a3,Brq Ck];rfl
     have qb:¬(q:Int)<(b.length:Int):=Ck;have a6:=Ba b9;rw[b1,Pk Hd]at a6;clear a3 b1 b9;by_cases f7:lo<(b.length:Int)
     ·have F:Hid (R=false):=by unfold Hid;rw[<- a6];simp[Lv,f7]
      clear a6;go_wp2;go_ret;exact⟨by rw[Ba F];rfl,L⟩
     by_cases l9:lo=(b.length:Int)
     ·have F:Hid (R=false):=by unfold Hid;rw[<- a6];simp[Lv,l9,a7]
      clear a6;go_wp2;go_ret;exact⟨by rw[Ba F];rfl,L⟩
     have HL:Hid (Im T D nm A B b k 0 ((c.map fun p=>p.1.m).drop 0)=R):=by unfold Hid;rw[<- a6];simp[Lv,f7,l9,a7]
     clear a6;go_wp2
     go_loopw [11] (fun v wr=>∃i:Nat,i<=c.length/\v=.i (i:Int)/\Hid (Im T D nm A B b k i ((c.map fun p=>p.1.m).drop i)=R)/\Bl w wr/\wr.heap[w.heap.size]?=some (O11 b3 l.length b4 (.p g) c.length b5)/\wr.heap[w.heap.size+1]?=some (O12 D nm pa b.length pc A B lo st c6 ha hl hc ma ml mc c7 c8))
      (fun v _=>c.length-(intOf v).toNat)
     case atStart=>exact⟨0,Ck,rfl,HL,L,CF,CM⟩
     case round=>
      clear HL L CF CM N O m0 m1 Q I J m5 m6 m7 m8 m9 a4 a5 lF lM c0;obtain⟨i,hi,rfl,HL,L,CF,CM⟩:=hrel;obtain⟨m0,m1,Q,I,J,m5,m6,m7,m8,m9,a4,a5⟩:=El CM;simp at m0 m1 Q I J m5 m6 m7 m8 m9 a4 a5;obtain⟨N,O⟩:=cl2 CF;simp at N O;have lF:w.heap.size<wr.heap.size:=Sp CF;have lM:w.heap.size+1<wr.heap.size:=Sp CM;have c0:=L.size;by_cases k1:i<c.length
      ·obtain⟨mx,gx,k2,q6,h6,p2⟩:=Ba o9 wr i k1 L;have p3:=Ba p0 _ (Brn k1);have hd:(c.map fun p=>p.1.m).drop i=c[i].1.m::(c.map fun p=>p.1.m).drop (i+1):=by
        rw[Brj (by simpa using k1)];simp
       have hr:=Ba HL;rw[hd,Im,Mi]at hr;obtain⟨d1,d2,d3,d4,-,-,-,-,d5,k3,-,-,-,-,-⟩:=p2;have n0:c[i].1.m.result=(mx.r1,mx.r2):=by rw[d3,d4]
       rw[<- d1,<- d2,n0]at hr;replace h6:=Oe h6;generalize c[i].1.m.params=b6 at *;obtain⟨a8,c4,c9,q7,d0,f9,g0,h8,h9,i0,i1,i2,i3,i4,i5,i6,i7,i8⟩:=mx;simp only at d5 k2;subst d5;obtain rfl:g=gx:=by simpa using k2
       simp only at hr h6 k3;obtain⟨z0,z1,z2,z3,z4,z5,z6,z7,z8,z9,p4,p5⟩:=h6;have ib:(i:Int)<(c.length:Int):=Ck;have p6:=Bc k3;have n1:=fun w h=>Ba o7 D a8 w h;generalize Tr.rbel T D a8=U at *;have HU:=Bc n1;have a0:=Bc hr;have CX:=Be wr (O12 a8 c4 c9 b6.length d0 f9 g0 h8 h9 i0 i1 i2 i3 i4 i5 i6 i7 i8);have c5:=L.alloc c0 (O12 a8 c4 c9 b6.length d0 f9 g0 h8 h9 i0 i1 i2 i3 i4 i5 i6 i7 i8);have g1:=Bg CF (O12 a8 c4 c9 b6.length d0 f9 g0 h8 h9 i0 i1 i2 i3 i4 i5 i6 i7 i8);have g3:=Bg CM (O12 a8 c4 c9 b6.length d0 f9 g0 h8 h9 i0 i1 i2 i3 i4 i5 i6 i7 i8);clear hd hr k3 d1 d2 d3 d4 n0 HL k2 n1;by_cases a9:c4=nm
       ·have p7:(c4 != nm)=false:=by simp[a9]
        by_cases b7:a8=255
        ·have p8:(a8==255)=true:=by simp[b7]
         have Y:Hid (Im T D nm A B b k (i+1) ((c.map fun p=>p.1.m).drop (i+1))=R):=by unfold Hid;rw[<- Ba a0];simp[a9,b7]
         clear a9 b7;clear a0;go_wp2;go_roundw
         case rel=>exact⟨i+1,Ck,Mg,Y,c5,g1,g3⟩
         case measure=>simp[intOf];omega
        have p8:(a8==255)=false:=by simp[b7]
        by_cases b8:a8=D
        ·have p9:(a8==D)=true:=by simp[b8]
         by_cases n2:i<k
         ·have q0:(i:Int)<(k:Int):=Ck;have Y:Hid (R=false):=by unfold Hid;rw[<- Ba a0];simp[a9,b8,n2,a7]
          clear a9 b7 b8;clear a0;go_wp2;go_ret;exact⟨by rw[Ba Y];rfl,c5⟩
         have q0:¬(i:Int)<(k:Int):=Ck;have Y:Hid (Im T D nm A B b k (i+1) ((c.map fun p=>p.1.m).drop (i+1))=R):=by unfold Hid;rw[<- Ba a0];simp[a9,b8,n2,a7]
         clear a9 b7 b8;clear a0;go_wp2;go_roundw
         case rel=>exact⟨i+1,Ck,Mg,Y,c5,g1,g3⟩
         case measure=>simp[intOf];omega
        have p9:(a8==D)=false:=by simp[b8]
        have g4:=Bc a9;have g5:=Bc b7;have g6:=Bc b8;clear a9 b7 b8;go_wp2_with fail;refine Qb (Ba HU _ (Ba o8 _ c5)) c5 ?_;intro w3 g7 k4;have n3:=stay g7 g1;have g8:=stay g7 g3;have g9:=stay g7 CX;have n4:Cq w3 bb (.s c9 b6.length d0) b6:=(Ba p6).kp (Kp.of_below (e:=none) ((QN _).trans (g7.mono Hd))) Fm;have n5:=Ba j3 _ k4;clear g7 c5 CF CM g1 g3 CX L N O m0 m1 Q I J m5 m6 m7 m8 m9 a4 a5 z0 z1 z2 z3 z4 z5 z6 z7 z8 z9 p4 p5 lF lM c0;have Q:=Bb g8 2;have I:=Bb g8 3;have J:=Bb g8 4;have x2:=Bb g9 2;have x3:=Bb g9 3;have x4:=Bb g9 4;simp at Q I J x2 x3 x4;have n6:=Bjd b6 b c9 pa d0 pc bb bb w3 n4 n5 p3 k5;generalize decide (b6=b)=SM at *;have q1:=Bc n6;clear n6 n4 n5;go_wp2_with fail;refine Qb (Ba q1) k4 ?_;intro w4 i9 h0;have n7:=stay i9 n3;have j0:=stay i9 g8;have n8:=stay i9 g9;clear i9 k4 n3 g8 g9 Q I J x2 x3 x4;have I:=Bb j0 3;have J:=Bb j0 4;have x3:=Bb n8 3;have x4:=Bb n8 4;simp at I J x3 x4;cases U with
        | false =>
         have Y:Hid (Im T D nm A B b k (i+1) ((c.map fun p=>p.1.m).drop (i+1))=R):=by unfold Hid;rw[<- Ba a0];simp[Ba g4,Ba g5,Ba g6]
         clear a0;go_wp2;go_roundw
         case rel=>exact⟨i+1,Ck,Mg,Y,h0,n7,j0⟩
         case measure=>simp[intOf];omega
        | true =>
         cases SM with
         | false =>
          have Y:Hid (R=false):=by unfold Hid;rw[<- Ba a0];simp[Ba g4,Ba g5,Ba g6]
          clear a0;go_wp2;go_ret;exact⟨by rw[Ba Y];rfl,h0⟩
         | true =>
          by_cases n9:f9=A
          ·by_cases o0:g0=B
           ·have Y:Hid (Im T D nm A B b k (i+1) ((c.map fun p=>p.1.m).drop (i+1))=R):=by unfold Hid;rw[<- Ba a0];simp[Ba g4,Ba g5,Ba g6,n9,o0]
            clear a0;go_wp2;go_roundw
            case rel=>exact⟨i+1,Ck,Mg,Y,h0,n7,j0⟩
            case measure=>simp[intOf];omega
           have Y:Hid (R=false):=by unfold Hid;rw[<- Ba a0];simp[Ba g4,Ba g5,Ba g6,o0]
           clear a0;go_wp2;go_ret;exact⟨by rw[Ba Y];rfl,h0⟩
          have Y:Hid (R=false):=by unfold Hid;rw[<- Ba a0];simp[Ba g4,Ba g5,Ba g6,n9]
          clear a0;go_wp2;go_ret;exact⟨by rw[Ba Y];rfl,h0⟩
       have p7:(c4 != nm)=true:=by simp[a9]
       have Y:Hid (Im T D nm A B b k (i+1) ((c.map fun p=>p.1.m).drop (i+1))=R):=by unfold Hid;rw[<- Ba a0];simp[a9]
       clear a9;clear a0;go_wp2;go_roundw
       case rel=>exact⟨i+1,Ck,Mg,Y,c5,g1,g3⟩
       case measure=>simp[intOf];omega
      have Y:Hid (R=true):=by unfold Hid;rw[<- Ba HL,Brq Fr];rfl
      have ib:¬(i:Int)<(c.length:Int):=Ck;clear HL;go_wp2;go_ret;exact⟨by rw[Ba Y];rfl,L⟩
  by_cases f8:A=0
  ·subst f8;have k0:¬B=0:=fun h=>hg ⟨rfl,h⟩;clear hg;have F:Hid (R=false):=by unfold Hid;rw[<- G];simp[a7,h7,k0]
   clear G;go_wp2;go_ret;exact⟨by rw[Ba F];rfl,b0⟩
  clear hg;have F:Hid (R=false):=by unfold Hid;rw[<- G];simp[a7,h7,f8]
  clear G;go_wp2;go_ret;exact⟨by rw[Ba F];rfl,b0⟩
structure Rf.MBd(x:Rf.Mth):Prop where
 ps:x.m.params.length<=1000
 code:x.m.code.length<=100000
 hs:x.m.handlers.length<=1000
 mp:x.m.maps.length<=1000
 fr:∀p∈x.m.maps,p.locals.length<=1000/\p.stack.length<=1000
def Bct{α:Type}(P:α->Prop)(f:Int->α×Int)(h:∀i,P (f i).1)(n:Nat)(i:Int):(∀x∈(Rf.rep f n i).1,P x)/\(Rf.rep f n i).1.length<=n:=by
 induction n with
 | zero=>simp[Rf.rep]
 | succ k ih =>
  unfold Rf.rep
  split
  ·simp
  split
  ·simp
  refine⟨?_,by simp;exact ih.2⟩;intro x b;simp only[Bs1,Bth]at b;rcases b with b|b
  ·exact ih.1 x b
  rw[b];exact h _
def Bhy(s:TB)(i:Int)(n:Nat):(Rf.codeTo s i n).length=n:=by
 induction n with
 | zero=>rfl
 | succ k ih=>simp[Rf.codeTo,ih]
def Bm8(s:TB)(i:Int):(Rf.hnds s i).1.length<=1000:=by
 unfold Rf.hnds;have b:=Rf.cnt_bd s i 0 4 Ck
 split
 ·simp
 split
 ·simp
 simp only;rw[Bbf];omega
def Bjy(s:TB)(i L H:Int)(c:L<=8)(b:-1<=H)(e:H<=8):(Rf.mps s i L H).1.length<=1000/\∀p∈(Rf.mps s i L H).1,p.locals.length<=1000/\p.stack.length<=1000:=by
 unfold Rf.mps;have f:=Rf.cnt_bd s i 0 64 Ck
 split
 ·simp
 have:=Bct (fun p:Rd.Mp=>p.locals.length<=1000/\p.stack.length<=1000) (Rf.mp s L H) (fun j=>by
  unfold Rf.mp;have g:=Rf.cnt_bd s (j+1+2*L) 0 H b
  split
  ·simp
  simp only;rw[Mx,Mx];omega) (Rf.cnt s i 0 64).toNat (i+1)
 exact⟨Ck,this.1⟩
def Bqf(s:TB)(i:Int):Rf.MBd (Rf.mth s i).1:=by
 have none:Rf.MBd ⟨⟨0,0,[],(0,0),0,0,[],[],[]⟩,0,0⟩:=⟨Hd,Hd,Hd,Hd,Hd⟩;unfold Rf.mth;have e:=Rf.cnt_bd s (i+2) 0 4 Ck;have c:=Rf.cnt_bd s (i+3+2*Rf.cnt s (i+2) 0 4+2) 0 8 Ck;have b:=Rf.cnt_bd s (i+3+2*Rf.cnt s (i+2) 0 4+3) 0 8 Ck;have f:=Rf.cnt_bd s (i+3+2*Rf.cnt s (i+2) 0 4+4) 1 120 Ck;dsimp only
 split
 ·exact none
 split
 ·exact none
 split
 ·exact none
 split
 ·exact none
 split
 ·exact none
 split
 ·exact none
 exact⟨by simp only;rw[Mx];omega,by simp only;rw[Bhy];omega,Bm8 s _,(Bjy s _ _ _ c.2 b.1 b.2).1,(Bjy s _ _ _ c.2 b.1 b.2).2⟩
def Baa(s:TB):(Rf.fil s).2.1.length<=6/\∀x∈(Rf.fil s).2.1,Rf.MBd x:=by
 unfold Rf.fil
 split
 ·simp
 split
 ·simp
 split
 ·simp
 dsimp only
 split
 ·simp
 split
 ·simp
 split
 ·simp
 have b:=Rf.cnt_bd s (Rf.rep (Rf.cls s) (Rf.cnt s 2 0 6).toNat 3).2 1 6 Ck;have:=Bct Rf.MBd (Rf.mth s) (Bqf s) (Rf.cnt s (Rf.rep (Rf.cls s) (Rf.cnt s 2 0 6).toNat 3).2 1 6).toNat ((Rf.rep (Rf.cls s) (Rf.cnt s 2 0 6).toNat 3).2+1);exact⟨Mc,this.1⟩
def Hv (T:TI)(ms:List Rd.Mth)(k:Nat)(m:Rd.Mth):Bool:=On T ms k m.cl m.name m.result.1 m.result.2 m.locals m.params
def Gt (T:TI)(ms:List Rd.Mth):Nat->List Rd.Mth->Int
 | _,[]=>-1
 | k,m::r=>if Hv T ms k m=false then (k:Int) else Gt T ms (k+1) r
def Mu (T:TI)(nf:Int)(ow:TI)(m:Rd.Mth):Int × Int :=
 if 0<=Cd.badCode T nf ow m.locals m.code then (5,Cd.badCode T nf ow m.locals m.code)
 else if 0<=Cd.firstIx (Cd.hndBad T m.code) 0 m.handlers then (6,Cd.firstIx (Cd.hndBad T m.code) 0 m.handlers)
 else if 0<=Cd.mapsBad T m.code 0 (-1) m.maps then (7,Cd.mapsBad T m.code 0 (-1) m.maps)
 else (0,0)
def Je (T:TI)(nf:Int)(ow:TI):Nat->List Rd.Mth->Int × Int × Int
 | _,[]=>(0,0,0)
 | k,m::r=>if (Mu T nf ow m).1≠0 then ((Mu T nf ow m).1,(k:Int),(Mu T nf ow m).2) else Je T nf ow (k+1) r
def Rg (T:TI)(nf:Int)(ms:List Rd.Mth):Int × Int × Int :=
 if 0<=Gt T ms 0 ms then (4,Gt T ms 0 ms,0) else Je T nf (ms.map Rd.Mth.cl) 0 ms
def Rf.nf(s:TB):Int:=((Rf.fieldsTo (Tr.tree (Rf.fil s).1) (Rf.given++(Rf.fil s).1) (Rf.fil s).1.length).length:Int)
def Rf.formed(s:TB):Int × Int × Int :=
 if (Rf.classed s).1≠0 then ((Rf.classed s).1,(Rf.classed s).2,0) else Rg (Tr.tree (Rf.fil s).1) (Rf.nf s) ((Rf.fil s).2.1.map Rf.Mth.m)
def Yz (s:TB)(w:TW)(e:Ending)(w':TW):Prop :=
 ∃a1 n1 c1 a2 n2 c2,e=.returned (.tuple #[.agg #[.slice a1 n1 c1,.slice a2 n2 c2],.int .i64 (Rf.formed s).1,.int .i64 (Rf.formed s).2.1,.int .i64 (Rf.formed s).2.2]) /\
  ((Rf.formed s).1=0->∃l1 l2,l1.map Prod.fst=Rf.given++(Rf.fil s).1/\Hm w' w.heap.size (.slice a1 n1 c1) l1/\l2.map Prod.fst=(Rf.fil s).2.1/\Ks w' w.heap.size (.slice a2 n2 c2) l2)/\Below w.heap.size w w'
def Xr(s:ByteArray)(w:TW)(hs:s.size<=maxLen):Calls prog 22 #[.string s] w fun e L=>Yz s.data.toList w e L:=by
 have f5:=fun w=>Bcx s w hs;have h3:=fun f a4=>Kk f (Rf.fil s.data.toList).1 a4;have Y:=Ac s.data.toList;have Z:=Baa s.data.toList;unfold Ow at f5;unfold Yz Rf.formed Rf.nf;generalize Rf.classed s.data.toList=C at *;generalize Rf.fil s.data.toList=l at *;have f6:=Bc f5;clear f5;have f7:=Be w (O11 none 0 0 none 0 0);have f8:Bl w (w.alloc (O11 none 0 0 none 0 0)):=QN _;by_cases h0:C.1=0
 ·rw[Pk (fun h=>h h0)];have k3:(C.1 != 0)=false:=by simp[h0]
  have H0:=Bc h0;clear h0;generalize hF:Rg (Tr.tree l.1) ((Rf.fieldsTo (Tr.tree l.1) (Rf.given++l.1) l.1.length).length:Int) (l.2.1.map Rf.Mth.m)=F;have HF:=Bc hF;have h4:=Bc h3;have h8:=Bc Y;have h9:=Bc Z;clear hF h3 Y Z;go_in;go_wp2_with fail;refine(Ba f6 _).mono ?_;rintro e Q ⟨z,n1,B,q,n2,D,rfl,i0,Y⟩;obtain⟨f,b,a4,c3,a8,c4⟩:=i0 (Ba H0);obtain⟨xa,xc,b1⟩:=Bh c3.1;simp only[Value.slice.injEq]at b1;obtain⟨rfl,rfl,rfl⟩:=b1;obtain⟨xa,xc,b1⟩:=Bh c4.1;simp only[Value.slice.injEq]at b1;obtain⟨rfl,rfl,rfl⟩:=b1;obtain⟨f9,_,k4⟩:=Ba h4 f a4;have g0:=Ba h8;have g1:=Ba h9;have k5:b.length<=6:=by
   have:(b.map Prod.fst).length<=6:=by rw[a8];exact g1.1
   simpa using this
  -- the file as the functions take it
  have c5:(RFl.mk z B q D (w.alloc (O11 none 0 0 none 0 0)).heap.size f b).ok Q:=by
   refine⟨by simp only;have:=g0.1;omega,Mc,k5,?_,c3,c4⟩;intro p hp;have k6:p.1∈Rf.given++l.1:=by rw[<- a4];exact Bsc hp
   rcases List.mem_append.1 k6 with h|h
   ·simp[Rf.given]at h;rcases h with h|h | h<;>(rw[h];simp)
   exact g0.2 _ h
  have g2:∀p∈b,Rf.MBd p.1:=fun p hp=>g1.2 _ (by rw[<- a8];exact Bsc hp);have i1:(RFl.mk z B q D (w.alloc (O11 none 0 0 none 0 0)).heap.size f b).fields=Rf.fieldsTo (Tr.tree l.1) (Rf.given++l.1) l.1.length:=by
   simp only[RFl.fields];rw[f9,a4,show f.length-7=l.1.length by omega]
  have b2:(RFl.mk z B q D (w.alloc (O11 none 0 0 none 0 0)).heap.size f b).T=Tr.tree l.1:=f9;have i2:(RFl.mk z B q D (w.alloc (O11 none 0 0 none 0 0)).heap.size f b).owners=(l.2.1.map Rf.Mth.m).map Rd.Mth.cl:=by
   simp only[RFl.owners];rw[<- a8];simp
  have g3:l.2.1.map Rf.Mth.m=b.map fun p=>p.1.m:=by rw[<- a8];simp
  have i3:∀(k:Nat) (L:TW) (hk:k<b.length),Bl Q L->Calls prog 57 #[.agg #[.s z f.length B,.s q b.length D],.i (k:Int)] L fun e K=>e=.r (.bool (Hv (Tr.tree l.1) (b.map fun p=>p.1.m) k b[k].1.m))/\Bl L K:=by
   intro k L hk hb;have:=Bjj (RFl.mk z B q D (w.alloc (O11 none 0 0 none 0 0)).heap.size f b) k L (c5.below hb) hk (fun p hp=>(g2 p hp).ps);rw[b2]at this;exact this
  have i4:∀(k:Nat) (L:TW) (hk:k<b.length),Bl Q L->∃(m:RMV) (g:Nat),q=some ⟨g,0,none⟩/\g<L.heap.size/\(∀j v,m.list[j]?=some v->L.C g (k*12+j) v) /\
    ∀K,Bl L K ->
     (Calls prog 58 #[.agg #[.s z f.length B,.s q b.length D],m.val] K fun e w3=>e=.r (.i (Cd.badCode (Tr.tree l.1) ((Rf.fieldsTo (Tr.tree l.1) (Rf.given++l.1) l.1.length).length:Int) ((b.map fun p=>p.1.m).map Rd.Mth.cl) b[k].1.m.locals b[k].1.m.code))/\Bl K w3) /\
     (Calls prog 59 #[.agg #[.s z f.length B,.s q b.length D],m.val] K fun e w3=>e=.r (.i (Cd.firstIx (Cd.hndBad (Tr.tree l.1) b[k].1.m.code) 0 b[k].1.m.handlers))/\Bl K w3) /\
     (Calls prog 60 #[.agg #[.s z f.length B,.s q b.length D],m.val] K fun e w3=>e=.r (.i (Cd.mapsBad (Tr.tree l.1) b[k].1.m.code 0 (-1) b[k].1.m.maps))/\Bl K w3):=by
   intro k L hk hb;obtain⟨m,g,hg,i5,a9,c6⟩:=RFl.mth (c5.below hb) (k:=k) hk;refine⟨m,g,hg,i5,a9,fun K Z=>?_⟩;have c7:=g2 _ (Brn hk);have b3:=c6.below Z;have i6:=c5.below (QB hb Z);have g4:m.code.size<=100000:=by
    rw[<- He,c6.code];exact c7.code
   have i7:=c6.lo;have c8:=c6.code;simp only at i7 c8;refine⟨?_,?_,?_⟩
   ·have:=Bc0 (RFl.mk z B q D (w.alloc (O11 none 0 0 none 0 0)).heap.size f b) m K i6 g4;rw[b2,i1,i2,i7,c8,g3]at this;exact this
   ·have:=Zn (RFl.mk z B q D (w.alloc (O11 none 0 0 none 0 0)).heap.size f b) m b[k].1.m.handlers K i6 g4 b3.hl c7.hs b3.hs;rw[b2,c8]at this;exact this
   obtain⟨lm,g5,k7⟩:=b3.mp;have i8:m.ml=lm.length:=by rw[b3.ml,<- g5];simp
   have:=Bet (RFl.mk z B q D (w.alloc (O11 none 0 0 none 0 0)).heap.size f b) m lm K g4 i8 (by rw[<- i8,b3.ml];exact c7.mp) (fun p hp=>c7.fr _ (by rw[<- g5];exact Bsc hp)) k7;rw[b2,c8,g5]at this;exact this
  have hF:=Ba HF;rw[g3]at hF;clear c5 g2 i1 b2 i2 g3 f9 k4 h4 h8 h9 g0 g1 i0 f6 HF;generalize ((Rf.fieldsTo (Tr.tree l.1) (Rf.given++l.1) l.1.length).length:Int)=nf at *;generalize Tr.tree l.1=T at *;unfold Rg at hF;generalize k8:(b.map fun p=>p.1.m).map Rd.Mth.cl=ow at *;clear k8;have a0:=f8.trans (Y.mono Hd);have i9:=Bg (stay Y f7) (O11 z f.length B q b.length D);have j0:=Be Q (O11 z f.length B q b.length D);have j1:Bl Q (Q.alloc (O11 z f.length B q b.length D)):=QN _;have a5:=a0.size;generalize j2:Gt T (b.map fun p=>p.1.m) 0 (b.map fun p=>p.1.m)=hr at hF;have a6:Hid (Gt T (b.map fun p=>p.1.m) 0 ((b.map fun p=>p.1.m).drop 0)=hr):=j2;have g6:=Bc hF;have j3:=Bc i3;have k9:=Bc i4;have l0:=Bc c3;have l3:=Bc c4;have l4:=Bc a4;have l5:=Bc a8;clear j2 hF i3 i4 c3 c4 a4 a8 Y f8 f7;go_wp2
  go_loopw [9] (fun v wr=>∃k:Nat,k<=b.length/\v=.i (k:Int)/\Hid (Gt T (b.map fun p=>p.1.m) k ((b.map fun p=>p.1.m).drop k)=hr)/\Bl Q wr/\wr.heap[w.heap.size]?=some (O11 none 0 0 none 0 0)/\wr.heap[Q.heap.size]?=some (O11 z f.length B q b.length D))
   (fun v _=>b.length-(intOf v).toNat)
  case atStart=>exact⟨0,Ck,rfl,a6,j1,i9,j0⟩
  case round=>
   clear a6 j1 i9 j0;obtain⟨k,hk,rfl,a6,I,c,V⟩:=hrel;obtain⟨N,O⟩:=cl2 V;simp at N O;by_cases b4:k<b.length
   ·have hd:(b.map fun p=>p.1.m).drop k=b[k].1.m::(b.map fun p=>p.1.m).drop (k+1):=by
     rw[Brj (by simpa using b4)];simp
    have hq:=Ba a6;rw[hd,Gt]at hq;have hh:=Ba j3 k wr b4 I;generalize Hv T (b.map fun p=>p.1.m) k b[k].1.m=A at *;have HH:=Bc hh;have HQ:=Bc hq;have kb:(k:Int)<(b.length:Int):=Ck;clear hd hq hh a6;go_wp2_with fail;refine Qb (Ba HH) I ?_;intro K Z b5;have b6:=stay Z V;have b0:=stay Z c;clear Z I V c N O;cases A with
    | true =>
     have HG:Hid (Gt T (b.map fun p=>p.1.m) (k+1) ((b.map fun p=>p.1.m).drop (k+1))=hr):=by unfold Hid;rw[<- Ba HQ];simp
     clear HQ;go_wp2;go_roundw
     case rel=>exact⟨k+1,Ck,Mg,HG,b5,b0,b6⟩
     case measure=>simp[intOf];omega
    | false =>
     have j4:hr=(k:Int):=by rw[<- Ba HQ];simp
     have HE:Hid (F=(4,(k:Int),0)):=by unfold Hid;rw[<- Ba g6,j4,Th Ck]
     have c:=b0;have a3:=a0.trans (b5.mono a5);clear HQ j4 b0 b6;obtain⟨G,t⟩:=cl2 c;obtain⟨q0,q1⟩:=fr2 c;have lr:=Sp c;simp at G t;go_wp2_with fail;refine tb (.tuple #[.agg #[.s none 0 0,.s none 0 0],.i 4,.i (k:Int),.i 0]) (by simp[results,Bur,go_sem,G,t]) ?_;rw[Ba HE];exact⟨none,0,0,none,0,0,rfl,fun h=>absurd h Hd,(a3.setCell Hd _).setCell Hd _⟩
   have j5:hr = -1:=by rw[<- Ba a6,Brq Fr];rfl
   have a7:Hid (Je T nf ow 0 ((b.map fun p=>p.1.m).drop 0)=F):=by unfold Hid;rw[<- Ba g6,j5];simp
   have kb:¬(k:Int)<(b.length:Int):=Ck;have b0:=c;have b6:=V;have b5:=I;clear j5 a6 g6 j3 c V I hk;go_wp2
   go_loopw [11] (fun v wr=>∃k:Nat,k<=b.length/\v=.i (k:Int)/\Hid (Je T nf ow k ((b.map fun p=>p.1.m).drop k)=F)/\Bl Q wr/\wr.heap[w.heap.size]?=some (O11 none 0 0 none 0 0)/\wr.heap[Q.heap.size]?=some (O11 z f.length B q b.length D))
    (fun v _=>b.length-(intOf v).toNat)
   case atStart=>exact⟨0,Ck,rfl,a7,b5,b0,b6⟩
   case round=>
    clear a7 b5 b0 b6 N O kb;obtain⟨k,hk,rfl,a7,I,c,V⟩:=hrel;obtain⟨N,O⟩:=cl2 V;simp at N O;have lF:=Sp V;have lR:=Sp c;have c9:=I.size;by_cases b4:k<b.length
    ·obtain⟨m,g,hg,i5,a9,g7⟩:=Ba k9 k wr b4 I;replace a9:=Oe a9;have hd:(b.map fun p=>p.1.m).drop k=b[k].1.m::(b.map fun p=>p.1.m).drop (k+1):=by
      rw[Brj (by simpa using b4)];simp
     have hq:=Ba a7;rw[hd,Je,Mu]at hq;generalize Cd.badCode T nf ow b[k].1.m.locals b[k].1.m.code=bc at *;generalize Cd.firstIx (Cd.hndBad T b[k].1.m.code) 0 b[k].1.m.handlers=bh at *;generalize Cd.mapsBad T b[k].1.m.code 0 (-1) b[k].1.m.maps=J at *;obtain⟨cl,nm,pa,pl,pc,t,r2,lo,st,d0,ha,hl,hc,ma,ml,mc,d1,d2⟩:=m;simp only[RMV.val]at a9 g7;obtain⟨y0,y1,y2,y3,y4,y5,y6,y7,y8,y9,l6,l7⟩:=a9;have kb:(k:Int)<(b.length:Int):=Ck;have g8:=Bc g7;have HQ:=Bc hq;have g9:Bl wr (wr.alloc (O12 cl nm pa pl pc t r2 lo st d0 ha hl hc ma ml mc d1 d2)):=QN _;have j6:=Be wr (O12 cl nm pa pl pc t r2 lo st d0 ha hl hc ma ml mc d1 d2);have j7:=Bg V (O12 cl nm pa pl pc t r2 lo st d0 ha hl hc ma ml mc d1 d2);have j8:=Bg c (O12 cl nm pa pl pc t r2 lo st d0 ha hl hc ma ml mc d1 d2);clear hd hq g7 a7;subst hg;go_wp2_with fail;refine(Ba g8 _ g9).1.mono ?_;rintro e w3 ⟨rfl,b7⟩;have d3:=g9.trans (b7.mono Hd);have d4:=stay b7 j6;have d5:=stay b7 j7;have d6:=stay b7 j8;clear b7 g9 j6 j7 j8 V c N O y0 y1 y2 y3 y4 y5 y6 y7 y8 y9 l6 l7;have j9:=a0.trans ((I.trans (d3.mono c9)).mono a5);by_cases h5:0<=bc
     ·have HE:Hid (F=(5,(k:Int),bc)):=by unfold Hid;rw[<- Ba HQ];simp[h5]
      have c:=d6;have a3:=j9;clear HQ d6 d5 d4;obtain⟨G,t⟩:=cl2 c;obtain⟨q0,q1⟩:=fr2 c;have lr:=Sp c;simp at G t;go_wp2_with fail;refine tb (.tuple #[.agg #[.s none 0 0,.s none 0 0],.i 5,.i (k:Int),.i bc]) (by simp[results,Bur,go_sem,G,t]) ?_;rw[Ba HE];exact⟨none,0,0,none,0,0,rfl,fun h=>absurd h Hd,(a3.setCell Hd _).setCell Hd _⟩
     have d7:Hid ((if (if 0<=bh then ((6:Int),bh) else if 0<=J then (7,J) else (0,0)).1≠0 then ((if 0<=bh then ((6:Int),bh) else if 0<=J then (7,J) else (0,0)).1,(k:Int),(if 0<=bh then ((6:Int),bh) else if 0<=J then (7,J) else (0,0)).2) else Je T nf ow (k+1) ((b.map fun p=>p.1.m).drop (k+1)))=F):=by
      unfold Hid;have:=Ba HQ;rw[Pk h5]at this;exact this
     obtain⟨m0,m1,m2,m3,m4,m5,m6,m7,m8,m9,b8,b9⟩:=El d4;simp at m0 m1 m2 m3 m4 m5 m6 m7 m8 m9 b8 b9;obtain⟨N,O⟩:=cl2 d5;simp at N O;clear HQ;go_wp2_with fail;refine(Ba g8 _ d3).2.1.mono ?_;rintro e w4 ⟨rfl,c0⟩;have d8:=QB d3 c0;have h1:=stay c0 d4;have d9:=stay c0 d5;have f2:=stay c0 d6;clear c0 d3 d4 d5 d6 N O m0 m1 m2 m3 m4 m5 m6 m7 m8 m9 b8 b9 j9;have k0:=a0.trans ((I.trans (d8.mono c9)).mono a5);by_cases h6:0<=bh
     ·have HE:Hid (F=(6,(k:Int),bh)):=by unfold Hid;rw[<- Ba d7];simp[h6]
      have c:=f2;have a3:=k0;clear d7 f2 d9 h1;obtain⟨G,t⟩:=cl2 c;obtain⟨q0,q1⟩:=fr2 c;have lr:=Sp c;simp at G t;go_wp2_with fail;refine tb (.tuple #[.agg #[.s none 0 0,.s none 0 0],.i 6,.i (k:Int),.i bh]) (by simp[results,Bur,go_sem,G,t]) ?_;rw[Ba HE];exact⟨none,0,0,none,0,0,rfl,fun h=>absurd h Hd,(a3.setCell Hd _).setCell Hd _⟩
     have f3:Hid ((if (if 0<=J then ((7:Int),J) else (0,0)).1≠0 then ((if 0<=J then ((7:Int),J) else (0,0)).1,(k:Int),(if 0<=J then ((7:Int),J) else (0,0)).2) else Je T nf ow (k+1) ((b.map fun p=>p.1.m).drop (k+1)))=F):=by
      unfold Hid;have:=Ba d7;rw[Pk h6]at this;exact this
     obtain⟨m0,m1,m2,m3,m4,m5,m6,m7,m8,m9,b8,b9⟩:=El h1;simp at m0 m1 m2 m3 m4 m5 m6 m7 m8 m9 b8 b9;obtain⟨N,O⟩:=cl2 d9;simp at N O;clear d7;go_wp2_with fail;refine(Ba g8 _ d8).2.2.mono ?_;rintro e w5 ⟨rfl,f4⟩;have k1:=QB d8 f4;have k2:=stay f4 d9;have h2:=stay f4 f2;clear f4 d8 h1 d9 f2 N O m0 m1 m2 m3 m4 m5 m6 m7 m8 m9 b8 b9 k0;by_cases h7:0<=J
     ·have HE:Hid (F=(7,(k:Int),J)):=by unfold Hid;rw[<- Ba f3];simp[h7]
      have c:=h2;have a3:=a0.trans ((I.trans (k1.mono c9)).mono a5);clear f3 h2 k2;obtain⟨G,t⟩:=cl2 c;obtain⟨q0,q1⟩:=fr2 c;have lr:=Sp c;simp at G t;go_wp2_with fail;refine tb (.tuple #[.agg #[.s none 0 0,.s none 0 0],.i 7,.i (k:Int),.i J]) (by simp[results,Bur,go_sem,G,t]) ?_;rw[Ba HE];exact⟨none,0,0,none,0,0,rfl,fun h=>absurd h Hd,(a3.setCell Hd _).setCell Hd _⟩
     have HG:Hid (Je T nf ow (k+1) ((b.map fun p=>p.1.m).drop (k+1))=F):=by unfold Hid;rw[<- Ba f3];simp[h7]
     have l8:=I.trans (k1.mono c9);clear f3;go_wp2;go_roundw
     case rel=>exact⟨k+1,Ck,Mg,HG,l8,h2,k2⟩
     case measure=>simp[intOf];omega
    have HE:Hid (F=(0,0,0)):=by unfold Hid;rw[<- Ba a7,Brq Fr];rfl
    have kb:¬(k:Int)<(b.length:Int):=Ck;have a3:=a0.trans (I.mono a5);obtain⟨G,t⟩:=cl2 c;obtain⟨q0,q1⟩:=fr2 c;simp at G t;clear a7;go_wp2_with fail;refine tb (.tuple #[.agg #[.s z f.length B,.s q b.length D],.i 0,.i 0,.i 0]) (by simp[results,Bur,go_sem,G,t]) ?_;rw[Ba HE];refine⟨z,f.length,B,q,b.length,D,rfl,fun _=>⟨f,Ba l4,?_,b,Ba l5,?_⟩,(a3.setCell Hd _).setCell Hd _⟩
    ·exact(((Ba l0).kp (Kp.of_below (e:=none) I) Fm Fm).kp (Kp.set2 c _ _) Fm Fm).mono Hd
    exact(((Ba l3).kp (Kp.of_below (e:=none) I) Fm Fm Fm Fm).kp (Kp.set2 c _ _) Fm Fm Fm Fm).mono Hd
 rw[Th h0];have k3:(C.1 != 0)=true:=by simp[h0]
 have H0:=Bc h0;clear h0;go_in;go_wp2_with fail;refine(Ba f6 _).mono ?_;rintro e Q ⟨z,n1,B,q,n2,D,rfl,_,Y⟩;have a0:=f8.trans (Y.mono Hd);have R1:=Bg (stay Y f7) (O11 z n1 B q n2 D);obtain⟨G,t⟩:=cl2 R1;obtain⟨N,O⟩:=fr2 R1;have lr:=Sp R1;have a5:=a0.size;simp at G t lr;go_wp2_with fail;refine tb (.tuple #[.agg #[.s none 0 0,.s none 0 0],.i C.1,.i C.2,.i 0]) (by simp[results,Bur,go_sem,G,t]) ?_;exact⟨none,0,0,none,0,0,rfl,fun h=>absurd h (Ba H0),((a0.alloc a5 _).setCell Hd _).setCell Hd _⟩
structure Cd.Ins where
 place:Int
 op:Int
 n:Int
def Cd.insAt(c:TI)(p:Nat):Cd.Ins:=⟨(p:Int),c.getD p 0,if Cd.wd (c.getD p 0)=2 then c.getD (p+1) 0 else 0⟩
def Kj (l:List Cd.Ins):List Value:=l.flatMap fun x=>[.int .i64 x.place,.int .i64 x.op,.int .i64 x.n]
def Bfc(l:List Cd.Ins)(x:Cd.Ins):Kj (l++[x])=Kj l++[.i x.place,.i x.op,.i x.n]:=by simp[Kj]
def Jz (w:TW)(b:Nat)(v:TX)(l:List Cd.Ins):Prop:=w.ownsRow b 219 3 v l.length (Kj l)
def Jz.kp{e:Option TypeId}{u:Nat}{l:TX}{c:List Cd.Ins}{w s:TW}(h:Jz w u l c)(f:Kp e u w s)(g:some 219≠e):Jz s u l c:=Dc h f g
def Tryz.infoIns:(prog.info? 219).map (fun i=>(i.zero,i.size,i.bytes))=some (some (.agg #[.i 0,.i 0,.i 0]),3,24):=Lt
def Wu(l:List Cd.Ins)(k:Nat)(h:k<l.length):(Kj l)[k*3]?=some (.i l[k].place)/\(Kj l)[k*3+1]?=some (.i l[k].op)/\(Kj l)[k*3+2]?=some (.i l[k].n)/\k*3+2<(Kj l).length:=by
 induction l generalizing k with
 | nil=>simp at h
 | cons x r ih =>
  have e:Kj (x::r)=.i x.place::.i x.op::.i x.n::Kj r:=by simp[Kj]
  cases k with
  | zero=>rw[e];simp
  | succ j =>
   obtain⟨p,q,z,y⟩:=ih j (by simpa using h);rw[e,show (j+1)*3=j*3+1+1+1 by omega];refine⟨by simpa using p,by simpa using q,by simpa using z,Fr⟩
def Bdz(op:Int)(w:TW):Calls prog 217 #[.i op] w fun e b=>e=.r (.bool (Cd.wd op==2))/\b=w:=by
 unfold Cd.wd;by_cases h:op=0\/op=2\/op=3\/(11<=op/\op<=21)
 ·rw[Th h];have c:op=0\/op=2\/op=3\/op=11\/op=12\/op=13\/op=14\/op=15\/op=16\/op=17\/op=18\/op=19\/op=20\/op=21:=Ck;rcases c with rfl|rfl|rfl|rfl|rfl|rfl|rfl|rfl|rfl|rfl|rfl|rfl|rfl|rfl
  all_goals
   go_in;go_wp2;go_ret;exact⟨rfl,rfl⟩
 rw[Pk h];have f:(op==0)=false:=Fr;have g:(op==2)=false:=Fr;have j:(op==3)=false:=Fr;have l:(op==11)=false:=Fr;have m:(op==12)=false:=Fr;have p:(op==13)=false:=Fr;have q:(op==14)=false:=Fr;have s:(op==15)=false:=Fr;have t:(op==16)=false:=Fr;have v:(op==17)=false:=Fr;have z:(op==18)=false:=Fr;have A:(op==19)=false:=Fr;have B:(op==20)=false:=Fr;have C:(op==21)=false:=Fr;go_in;go_wp2;go_ret;exact⟨rfl,rfl⟩
def W1(p:Nat)(op n:Int)(w:TW)(g:p<=100000):Calls prog 164 #[.agg #[.i (p:Int),.i op,.i n]] w fun e c=>e=.r (.i ((p+Cd.wd op:Nat):Int))/\Bl w c:=by
 have b:=fun w=>Bdz op w;rcases(show Cd.wd op=1\/Cd.wd op=2 by have:=Cd.wd_bd op;omega) with h|h
 all_goals
  rw[h]at b ⊢;have f:=Bc b;go_in;go_wp2_with fail;refine Qm (Ba f _) ?_;rintro j rfl;go_wp2;go_ret;exact⟨Hd,QN _⟩
def Cd.findAt(place:Int):List Cd.Ins->Option Cd.Ins
 | []=>none
 | x::r=>if x.place=place then some x else Cd.findAt place r
def Cd.orZero:Option Cd.Ins->Cd.Ins
 | some x=>x
 | none=>⟨0,0,0⟩
def Bac(l:List Cd.Ins)(a:TA)(G Y:Nat)(b:Int)(w:TW)(hl:l.length<=100000)(Z:Jz w Y (.s a l.length G) l):Calls prog 287 #[.s a l.length G,.i b] w fun e w' => e=.r (.tuple #[.agg #[.i (Cd.orZero (Cd.findAt b l)).place,.i (Cd.orZero (Cd.findAt b l)).op,.i (Cd.orZero (Cd.findAt b l)).n],.bool (Cd.findAt b l).isSome])/\Bl w w':=by
 generalize f:Cd.findAt b l=r;have h:Hid (Cd.findAt b (l.drop 0)=r):=f;clear f;have I:Bl w (w.alloc (O15 0 0 0)):=QN _;have J:=Be w (O15 0 0 0);go_in;go_wp2
 go_loopw [10] (fun v wr=>∃k:Nat,k<=l.length/\v=.i (k:Int)/\Hid (Cd.findAt b (l.drop k)=r)/\Bl w wr/\wr.heap[w.heap.size]?=some (O15 0 0 0))
  (fun v _=>l.length-(intOf v).toNat)
 case atStart=>exact⟨0,Ck,rfl,h,I,J⟩
 case round=>
  clear I J h;obtain⟨k,hk,rfl,h,p,j⟩:=hrel;have a0:=p.size;by_cases K:k<l.length
  ·obtain⟨g,hg,a4,_,D⟩:=Cf (Z.kp (Kp.of_below (e:=none) p) Fm) Ck;obtain⟨L,N,O,t4⟩:=Wu l k K;have u0:=(D (k*3) Ck).trans L;have u1:=(D (k*3+1) Ck).trans N;have u2:=(D (k*3+2) Ck).trans O;have Q:l.drop k=l[k]::l.drop (k+1):=Brj K;have f:=Ba h;rw[Q,Cd.findAt]at f;generalize l[k]=x at *;obtain⟨c,q,t⟩:=x;simp only at u0 u1 u2 f;have kb:(k:Int)<(l.length:Int):=Ck;have CX:=Be wr (O15 c q t);have a1:=Bg j (O15 c q t);have a2:=p.alloc a0 (O15 c q t);have F:=Bc f;clear Q f h D L N O t4;subst hg;by_cases m:c=b
   ·have a3:(c==b)=true:=by simp[m]
    have z:Hid (r=some ⟨c,q,t⟩):=by unfold Hid;rw[<- Ba F,Th m]
    obtain⟨A,B,C⟩:=cl3 j;obtain⟨q0,q1,q2⟩:=fr3 j;have lr:=Sp j;simp at A B C;clear m F;go_wp2_with fail;refine tb (.tuple #[.agg #[.i c,.i q,.i t],.bool true]) (by simp[results,results287,go_sem,A,B,C,lr]) ?_;rw[Ba z];exact⟨rfl,by repeat (first|refine Bry ?_ Hd _|refine Bs4 ?_ (by first|omega|(simp;omega)) _|exact p)⟩
   have a3:(c==b)=false:=by simp[m]
   have z:Hid (Cd.findAt b (l.drop (k+1))=r):=by unfold Hid;rw[<- Ba F,Pk m]
   clear m F;go_wp2;go_roundw
   case rel=>exact⟨k+1,Ck,Mg,z,a2,a1⟩
   case measure=>simp[intOf];omega
  have V:r=none:=by rw[<- Ba h,Brq Ck];rfl
  have z:=Bc V;obtain⟨A,B,C⟩:=cl3 j;obtain⟨q0,q1,q2⟩:=fr3 j;have kb:¬(k:Int)<(l.length:Int):=Ck;simp at A B C;clear V h;go_wp2_with fail;refine tb (.tuple #[.agg #[.i 0,.i 0,.i 0],.bool false]) (by simp[results,results287,go_sem,A,B,C]) ?_;rw[Ba z];exact⟨rfl,((p.setCell Hd _).setCell Hd _).setCell Hd _⟩
def Uo(l:List Cd.Ins)(a:TA)(c f:Nat)(b:Int)(w:TW)(h:l.length<=100000)(j:Jz w f (.s a l.length c) l):Calls prog 255 #[.s a l.length c,.i b] w fun e m=>e=.r (.bool (Cd.findAt b l).isSome)/\Bl w m:=by
 have p:=Bac l a c f b w h j;generalize Cd.findAt b l=r at *;have q:=Bc p;go_in;go_wp2_with fail;refine Qm (Ba q) ?_;intro t g;go_wp2;go_ret;exact⟨rfl,g.alloc g.size _⟩
def Bh5(l:List Cd.Ins)(a:TA)(f g:Nat)(b:Int)(w:TW)(j:l.length<=100000)(m:Jz w g (.s a l.length f) l):Calls prog 304 #[.s a l.length f,.i b] w fun e p=>e=.r (.bool ((Cd.findAt b l).isSome&&((Cd.orZero (Cd.findAt b l)).op==15)))/\Bl w p:=by
 have q:=Bac l a f g b w j m;generalize Cd.findAt b l=r at *;have h:=Bc q;cases r with
 | none =>
  go_in;go_wp2_with fail;refine Qm (Ba h) ?_;intro t c;go_wp2;go_ret;exact⟨rfl,c.alloc c.size _⟩
 | some x =>
  go_in;go_wp2_with fail;refine Qm (Ba h) ?_;intro t c;go_wp2;go_ret;exact⟨rfl,c.alloc c.size _⟩
def Cd.insts(c:TI):List Cd.Ins:=(Cd.places c).map (Cd.insAt c)
def Cd.readL(c:TI):List Cd.Ins:=if 0<=Cd.unread c then [] else Cd.insts c
def Cd.readP(c:TI):Int:=if 0<=Cd.unread c then Cd.unread c else 0
def Cd.readB(c:TI):Bool:=decide (Cd.unread c<0)
def Cd.one(c:TI)(p:Nat):Option Cd.Ins:=if p<c.length/\c.getD p 0<=25/\p+Cd.wd (c.getD p 0)<=c.length then some (Cd.insAt c p) else none
def Be0:Cd.orZero none=⟨0,0,0⟩:=rfl
theorem Bef(c:List Int)(a:Option Addr)(C F p:Nat)(w:World)(N:c.length<=1000)(O:p<=100000)(j:∀x∈c,0<=x)(l:De w F (.slice a c.length C) c):Calls prog 163 #[.slice a c.length C,.int .i64 (p:Int)] w fun e G => e=.returned (.tuple #[.agg #[.int .i64 (Cd.orZero (Cd.one c p)).place,.int .i64 (Cd.orZero (Cd.one c p)).op,.int .i64 (Cd.orZero (Cd.one c p)).n],.bool (Cd.one c p).isSome])/\Below w.heap.size w G:=by
 generalize b:Cd.one c p=r;unfold Cd.one at b;have Q:¬(p:Int)<0:=Ck;by_cases v:p<c.length
 ·obtain⟨g,z,V,_,m⟩:=Cf l Ck;have Y:w.cell? ⟨g,p,none⟩=some (.int .i64 (c.getD p 0)):=by
   rw[m p (by simpa using v),Bsf,Vm,Brl v];rfl
  have A:0<=c.getD p 0:=by
   rw[Vm,Brl v];exact j _ (Brn v)
  have s:p+1<c.length->w.cell? ⟨g,p+1,none⟩=some (.int .i64 (c.getD (p+1) 0)):=by
   intro h;rw[m (p+1) (by simpa using h),Bsf,Vm,Brl h];rfl
  have q:Cd.insAt c p=⟨(p:Int),c.getD p 0,if Cd.wd (c.getD p 0)=2 then c.getD (p+1) 0 else 0⟩:=rfl
  have B:=Cd.wd_bd (c.getD p 0);have I:(p:Int)<(c.length:Int):=Ck;have Z:¬c.getD p 0<0:=Ck;by_cases a0:25<c.getD p 0
  ·have f:Hid (r=none):=by unfold Hid;rw[<- b,Pk Ck]
   generalize c.getD p 0=op at *;clear b q m s A j l;subst z;go_in;go_wp2;refine tb (.tuple #[.agg #[.int .i64 0,.int .i64 0,.int .i64 0],.bool false]) (by simp[results,Bu1,go_sem]) ?_;rw[Ba f];exact⟨rfl,by first|exact Bu _ _ _|exact QN _⟩
  have i:=fun w=>Bdz (c.getD p 0) w;rcases(show Cd.wd (c.getD p 0)=1\/Cd.wd (c.getD p 0)=2 by omega) with hw|hw
  ·have f:Hid (r=some ⟨(p:Int),c.getD p 0,0⟩):=by
    unfold Hid;rw[<- b,Th Ck,q,hw];rfl
   rw[hw]at i;generalize c.getD p 0=op at *;have t:=Bc i;clear b q m s A j l i hw B;subst z;go_in;go_wp2_with fail;refine(Ba t _).mono ?_;rintro e D ⟨rfl,rfl⟩;go_wp2;refine tb (.tuple #[.agg #[.int .i64 (p:Int),.int .i64 op,.int .i64 0],.bool true]) (by simp[results,Bu1,go_sem]) ?_;rw[Ba f];exact⟨rfl,by first|exact Bu _ _ _|exact QN _⟩
  by_cases J:p+1<c.length
  ·have f:Hid (r=some ⟨(p:Int),c.getD p 0,c.getD (p+1) 0⟩):=by
    unfold Hid;rw[<- b,Th Ck,q,hw];rfl
   have y2:=s J;have K:(p:Int)+1<(c.length:Int):=Ck;rw[hw]at i;generalize c.getD (p+1) 0=L at *;generalize c.getD p 0=op at *;have t:=Bc i;clear b q m s A j l i hw B;subst z;go_in;go_wp2_with fail;refine(Ba t _).mono ?_;rintro e D ⟨rfl,rfl⟩;go_wp2;refine tb (.tuple #[.agg #[.int .i64 (p:Int),.int .i64 op,.int .i64 L],.bool true]) (by simp[results,Bu1,go_sem]) ?_;rw[Ba f];exact⟨rfl,by first|exact Bu _ _ _|exact QN _⟩
  have f:Hid (r=none):=by unfold Hid;rw[<- b,Pk Ck]
  have K:¬(p:Int)+1<(c.length:Int):=Ck;rw[hw]at i;generalize c.getD p 0=op at *;have t:=Bc i;clear b q m s A j l i hw B;subst z;go_in;go_wp2_with fail;refine(Ba t _).mono ?_;rintro e D ⟨rfl,rfl⟩;go_wp2;refine tb (.tuple #[.agg #[.int .i64 0,.int .i64 0,.int .i64 0],.bool false]) (by simp[results,Bu1,go_sem]) ?_;rw[Ba f];exact⟨rfl,by first|exact Bu _ _ _|exact QN _⟩
 have f:Hid (r=none):=by unfold Hid;rw[<- b,Pk Ck]
 have I:¬(p:Int)<(c.length:Int):=Ck;clear b j l;go_in;go_wp2;refine tb (.tuple #[.agg #[.int .i64 0,.int .i64 0,.int .i64 0],.bool false]) (by simp[results,Bu1,go_sem]) ?_;rw[Ba f];exact⟨rfl,by first|exact Bu _ _ _|exact QN _⟩
def Bbr(c:TI)(a:TA)(N bb:Nat)(w:TW)(hl:c.length<=1000)(h0:∀x∈c,0<=x)(hi:De w bb (.s a c.length N) c):Calls prog 108 #[.s a c.length N] w fun e C => ∃va vc,e=.r (.tuple #[.s va (Cd.readL c).length vc,.i (Cd.readP c),.bool (Cd.readB c)])/\Jz C w.heap.size (.s va (Cd.readL c).length vc) (Cd.readL c)/\Bl w C:=by
 obtain⟨i0,b6,b7,b8,b9⟩:=Bsa Tryz.infoIns;have O:Cd.unread c=Cd.first (Cd.noRead c) (Cd.starts c c.length 0):=rfl
 generalize G:Cd.unread c=U at O;have hL:Cd.readL c=if 0<=U then [] else Cd.insts c:=by unfold Cd.readL;rw[G]
 have hP:Cd.readP c=if 0<=U then U else 0:=by unfold Cd.readP;rw[G]
 have a2:Cd.readB c=decide (U<0):=by unfold Cd.readB;rw[G]
 generalize Cd.readL c=L at *;generalize Cd.readP c=P at *;generalize Cd.readB c=B at *;have HL:=Bc hL;have HP:=Bc hP;have a3:=Bc a2;have l:Hid (Cd.first (Cd.noRead c) (Cd.starts c c.length 0)=U):=O.symm
 have m:Hid (([]:List Nat)++Cd.starts c c.length 0=Cd.places c):=rfl;have H0:=Bc h0;clear hL hP a2 G O h0;go_in;go_wp2
 go_loopw [5,6] (fun u v wr=>∃(p k:Nat) (done:List Nat),v=.i (p:Int)/\c.length<=p+k/\p<=2000/\done.length<=p/\wr.ownsRow w.heap.size 219 3 u done.length (Kj (done.map (Cd.insAt c))) /\
   Hid (done++Cd.starts c k p=Cd.places c)/\Hid (Cd.first (Cd.noRead c) (Cd.starts c k p)=U)/\Bl w wr)
  (fun _ v _=>c.length-(intOf v).toNat)
 case atStart=>exact⟨0,c.length,[],rfl,Ck,Ck,Hd,Brw _ _ _ _,m,l,Brm _ _⟩
 case round=>
  clear l m;obtain⟨p,k,done,rfl,hk,d4,d5,I,m,l,q⟩:=hrel;obtain⟨ua,uc,rfl⟩:=Bh I;have a4:=q.size;by_cases a5:p<c.length
  ·obtain⟨j,rfl,hj,Q⟩:=Cd.starts_go (c:=c) (k:=k) (p:=p) a5 hk;have b:=Ba l;have f:=Ba m;rw[Q]at b f;rw[Cd.first]at b
   have d6:=Cd.wd_bd (c.getD p 0);have g:=fun C (hb:Bl w C)=>Bef c a N bb p C hl Ck (Ba H0) (hi.kp (Kp.of_below (e:=none) hb) Fm);have J:Cd.noRead c p=(decide (25<c.getD p 0)||decide (c.length<p+Cd.wd (c.getD p 0))):=rfl;have kb:(p:Int)<(c.length:Int):=Ck;by_cases a6:c.getD p 0<=25/\p+Cd.wd (c.getD p 0)<=c.length
   ·have D:Cd.one c p=some (Cd.insAt c p):=by unfold Cd.one;rw[Th ⟨a5,a6⟩]
    have a7:=fun n w=>W1 p (c.getD p 0) n w Ck;have c0:Hid (Cd.first (Cd.noRead c) (Cd.starts c j (p+Cd.wd (c.getD p 0)))=U):=by
     unfold Hid;rw[<- b,J,Buk (show ¬25<c.getD p 0 by omega),Buk (show ¬c.length<p+Cd.wd (c.getD p 0) by omega)];rw[Pk Fm]
    have c6:Hid ((done++[p])++Cd.starts c j (p+Cd.wd (c.getD p 0))=Cd.places c):=by unfold Hid;rw[<- f];simp
    have t:Hid (Kj ((done++[p]).map (Cd.insAt c))=Kj (done.map (Cd.insAt c))++[.i (Cd.insAt c p).place,.i (Cd.insAt c p).op,.i (Cd.insAt c p).n]):=by
     unfold Hid;rw[Bse,List.map_singleton,Bfc]
    have V:(Cd.insAt c p).place=(p:Int):=rfl;have Y:(Cd.insAt c p).op=c.getD p 0:=rfl;rw[D]at g;simp only[Cd.orZero,Option.isSome_some]at g;rw[V,Y]at g;unfold Hid at t;rw[V,Y]at t;have t:=Bc t;generalize (Cd.insAt c p).n=Z at *;generalize Cd.wd (c.getD p 0)=c7 at *;generalize c.getD p 0=op at *;have a0:=Bc g;have c8:=Bc a7;clear g a7 b f J Q l m V Y D;go_wp2_with fail;refine Qm (Ba a0 _ q) ?_;intro F z;have A:=q.trans (z.mono a4);have K:=Dc I (Kp.of_below (e:=none) z) Fm;have a8:=A.size;clear z I;go_wp2_with (at_builtin;refine Br3 _ rfl _ _ 179 rfl w.heap.size 219 i0 _ 3 24 underlying179 b6 b7 b8 b9 rfl Fm _ _ _ rfl ((K.alloc _).alloc _) ⟨F.heap.size+1,0,none⟩ 1 1 [.i (p:Int),.i op,.i Z] rfl rfl ?c1 ?c2 ?c3 ?c4 ?c5 ?_)
    case c1=>exact Dh _ _ _ _ Hd
    case c2=>intro u b;simp at b;rcases b with rfl|rfl|rfl<;>rfl
    case c3=>unfold maxLen;omega
    case c4=>omega
    case c5=>simp;omega
    intro v' w2 a9 a1 _;have hX:w2.heap[F.heap.size]?=some (O15 (p:Int) op Z):=by
     rw[a1.block F.heap.size Fr (fun h=>by have:=(K.lt _ h.symm).2;omega),Br2 _ _ _ Hd];exact Be F _
    have b0:w2.ownsRow w.heap.size 219 3 v' (done++[p]).length (Kj ((done++[p]).map (Cd.insAt c))):=by
     rw[Ba t,Ws];exact a9
    have b1:=((A.alloc a8 _).alloc Fr _).grown a1 Fr (fun j hj=>(K.lt j hj).1);obtain⟨x0,x1,x2⟩:=cl3 hX;simp at x0 x1 x2;clear a1 K a9 A q hX t;go_wp2_with fail;refine Qb (Ba c8 Z _) b1 ?_;intro w3 b2 c9;have d0:=Dc b0 (Kp.of_below (e:=none) b2) Fm;clear b2 b1 b0 x0 x1 x2;go_wp2;go_roundw
    case rel=>exact⟨p+c7,j,done++[p],rfl,Ck,Ck,Fr,d0,c6,c0,c9⟩
    case measure=>simp[intOf];omega
   have D:Cd.one c p=none:=by unfold Cd.one;rw[Pk (fun h=>a6 h.2)]
   have HF:Hid (U=(p:Int)):=by
    unfold Hid;rw[<- b,J];by_cases d1:25<c.getD p 0;·rw[Bt5 d1,Bool.true_or,Th rfl]
    rw[Bt5 (show c.length<p+Cd.wd (c.getD p 0) by omega),Bool.or_true,Th rfl]
   rw[D]at g;simp only[Be0,Bvr]at g;have a0:=Bc g;clear g b f J Q l m D;go_wp2_with fail;refine Qm (Ba a0 _ q) ?_;intro F z;have A:=q.trans (z.mono a4);have a8:=A.size;clear z;go_wp2;refine tb (.tuple #[.s none 0 0,.i (p:Int),.bool false]) (by simp[results,results108,go_sem]) ?_;have b3:(0:Int)<=(p:Int):=Ck;rw[Ba HL,Ba HP,Ba a3,Ba HF,Th b3,Th b3];exact⟨none,0,Hd,Brw _ _ _ _,by repeat (first|refine Bud ?_|refine Bs4 ?_ (by first|omega|(simp;omega)) _|exact A)⟩
  have b:=Ba l;have f:=Ba m;rw[Cd.starts_end Ck]at b f;have b4:U = -1:=by rw[<- b];rfl
  rw[Btg]at f;have d2:=Bc b4;have d3:=Bc f;have kb:¬(p:Int)<(c.length:Int):=Ck;clear b f b4 l m;go_wp2;refine tb (.tuple #[.s ua done.length uc,.i 0,.bool true]) (by simp[results,results108,go_sem]) ?_;have b5:¬(0:Int)<=-1:=Ck;rw[Ba HL,Ba HP,Ba a3,Ba d2,Pk b5,Pk b5];unfold Cd.insts;rw[<- Ba d3];exact⟨ua,uc,Hd,by unfold Jz;simpa using I,q⟩
namespace Cd
def Bbl(c:TI)(b:Int)(e:List Nat):(findAt b (e.map (insAt c))).isSome=e.any fun p=>(p:Int)==b:=by
 induction e with
 | nil=>rfl
 | cons p r ih =>
  rw[Bsw,findAt,Buj];by_cases h:(insAt c p).place=b
  ·rw[Th h];have:((p:Int)==b)=true:=by simpa[insAt] using h
   rw[this];rfl
  rw[Pk h,ih];have:((p:Int)==b)=false:=by simpa[insAt] using h
  rw[this];rfl
def find_beg(c:TI)(b:Int):(findAt b (insts c)).isSome=begB c b:=Bbl c b (places c)
def find_at(c:TI)(b:Int)(e:List Nat)(h:(findAt b (e.map (insAt c))).isSome=true):(orZero (findAt b (e.map (insAt c))))=insAt c b.toNat/\0<=b:=by
 induction e with
 | nil=>simp[findAt]at h
 | cons p r ih =>
  rw[Bsw,findAt]at h ⊢;by_cases f:(insAt c p).place=b;·rw[Th f];have:(p:Int)=b:=f;subst this;exact⟨by simp[orZero],Ck⟩
  rw[Pk f]at h ⊢;exact ih h
def Bnd(c:TI)(b:Int):((findAt b (insts c)).isSome&&((orZero (findAt b (insts c))).op==15))=(begB c b&&(c.getD b.toNat 0==15)):=by
 rw[find_beg];cases h:begB c b with
 | false=>rfl
 | true =>
  have:=(find_at c b (places c) (by rw[Bbl];exact h)).1;unfold insts;rw[this];rfl
end Cd
structure PBd where
 fa1:Option Addr
 fl1:Nat
 fc1:Nat
 fa2:Option Addr
 fl2:Nat
 fc2:Nat
 tg:Nat
 tc:Nat
 ya:Option Addr
 yn:Nat
 yc:Nat
 cl:Int
 nm:Int
 pa:Option Addr
 pl:Nat
 pc:Nat
 r1:Int
 r2:Int
 lo:Int
 st:Int
 ca:Option Addr
 cn:Nat
 cc:Nat
 ha:Option Addr
 hl:Nat
 hc:Nat
 ma:Option Addr
 ml:Nat
 mc:Nat
 la:Option Addr
 lc:Nat
 T:List Int
 L:List Cd.Ins
def PBd.val(b:PBd):Value:=.agg #[.slice b.fa1 b.fl1 b.fc1,.slice b.fa2 b.fl2 b.fc2,.slice (some ⟨b.tg,0,none⟩) b.T.length b.tc,.slice b.ya b.yn b.yc,.int .i64 b.cl,.int .i64 b.nm,.slice b.pa b.pl b.pc,.int .i64 b.r1,.int .i64 b.r2,.int .i64 b.lo,.int .i64 b.st,.slice b.ca b.cn b.cc,.slice b.ha b.hl b.hc,.slice b.ma b.ml b.mc,.slice b.la b.L.length b.lc]
def PBd.ok(b:PBd)(w:TW)(bb:Nat):Prop:=b.T.length<=1000/\b.L.length<=100000/\Dy w b.tg b.T/\Jz w bb (.slice b.la b.L.length b.lc) b.L
def PBd.ok.below{b:PBd}{w s:TW}{u:Nat}(h:b.ok w u)(c:Bl w s):b.ok s u :=
 ⟨h.1,h.2.1,h.2.2.1.below c,h.2.2.2.kp (Kp.of_below (e:=none) c) Fm⟩
def Cd.mapTy(T:TI)(L:List Cd.Ins)(k n:Int):Bool:=if k=4 then (Cd.findAt n L).isSome&&((Cd.orZero (Cd.findAt n L)).op==15) else Tr.settledB T k n
def Bj6(b:PBd)(g:Nat)(k n:Int)(w:TW)(t:b.ok w g):Calls prog 303 #[b.val,.agg #[.i k,.i n]] w fun e f=>e=.r (.bool (Cd.mapTy b.T b.L k n))/\Bl w f:=by
 have q:=fun w (h:b.ok w g)=>Bh5 b.L b.la b.lc g n w h.2.1 h.2.2.2;have s:=fun w=>Bcc (ya:=b.ya) (yn:=b.yn) (yc:=b.yc) b.T (.p b.tg) b.tc k n w;have v:∀f,Bl w f->b.ok f g:=fun f h=>t.below h;generalize c:Cd.mapTy b.T b.L k n=R;unfold Cd.mapTy at c;obtain⟨D,F,G,I,J,K,N,O,ya,yn,yc,Q,V,Y,Z,pc,r1,r2,lo,st,ca,cn,cc,ha,hl,hc,ma,ml,mc,la,lc,T,L⟩:=b;simp only[PBd.val]at q s c ⊢;have z:=Bc q;have A:=Bc s;have B:=Bc v;by_cases j:k=4;·rw[Th j]at c;subst j;have l:=Bc c;go_in;go_wp2_with fail;refine Qm (Ba z _ (Ba B _ (Bu _ _ _))) ?_;intro C m;go_wp2;go_ret;exact⟨by rw[<- Ba l];rfl,(Bu _ _ _).trans (m.mono Fr)⟩
 rw[Pk j]at c;have a0:(k==4)=false:=by simp[j]
 have l:=Bc c;go_in;go_wp2_with fail;refine Qm (Ba A _) ?_;intro C m;go_wp2;go_ret;exact⟨by rw[<- Ba l];rfl,(Bu _ _ _).trans (m.mono Fr)⟩
def Cd.mapTys(T:TI)(L:List Cd.Ins)(l:TP):Bool:=l.all fun t=>Cd.mapTy T L t.1 t.2
def Zw(b:PBd)(z b2:Nat)(l:TP)(F:TA)(vc:Nat)(w:TW)(hb:b.ok w z)(hl:l.length<=1000)(ht:Cq w b2 (.s F l.length vc) l):Calls prog 288 #[b.val,.s F l.length vc] w fun e c=>e=.r (.bool (Cd.mapTys b.T b.L l))/\Bl w c:=by
 have G:=fun k n w (h:b.ok w z)=>Bj6 b z k n w h;have a3:∀c,Bl w c->b.ok c z:=fun c h=>hb.below h;have a4:∀c,Bl w c->Cq c b2 (.s F l.length vc) l:=fun c h=>ht.kp (Kp.of_below (e:=none) h) Fm;generalize hR:Cd.mapTys b.T b.L l=R;have f:Hid (Cd.mapTys b.T b.L (l.drop 0)=R):=hR;clear hR;obtain⟨I,J,K,N,O,Q,V,Y,ya,yn,yc,cl,nm,pa,pl,pc,r1,r2,lo,st,ca,cn,cc,ha,a0,hc,ma,ml,mc,la,lc,T,L⟩:=b;simp only[PBd.val]at G f ⊢;have HM:=Bc G;have HO:=Bc a3;have HT:=Bc a4;clear G a3 a4 hb ht;have a5:Bl w (w.alloc (O16 I J K N O Q (.p V) T.length Y ya yn yc cl nm pa pl pc r1 r2 lo st ca cn cc ha a0 hc ma ml mc la L.length lc)):=QN _;have C0:=Be w (O16 I J K N O Q (.p V) T.length Y ya yn yc cl nm pa pl pc r1 r2 lo st ca cn cc ha a0 hc ma ml mc la L.length lc);go_in;go_wp2
 go_loopw [9] (fun v wr=>∃k:Nat,k<=l.length/\v=.i (k:Int)/\Hid (Cd.mapTys T L (l.drop k)=R)/\Bl w wr /\
   wr.heap[w.heap.size]?=some (O16 I J K N O Q (.p V) T.length Y ya yn yc cl nm pa pl pc r1 r2 lo st ca cn cc ha a0 hc ma ml mc la L.length lc))
  (fun v _=>l.length-(intOf v).toNat)
 case atStart=>exact⟨0,Ck,rfl,f,a5,C0⟩
 case round=>
  clear a5 C0 f;obtain⟨k,hk,rfl,f,j,A⟩:=hrel;obtain⟨m0,m1,m2,m3,m4,m5,m6,m7,m8,m9,a6,a7,a8,a9,b0⟩:=Tk A;simp at m0 m1 m2 m3 m4 m5 m6 m7 m8 m9 a6 a7 a8 a9 b0;have b6:=j.size;have lB:=Sp A;by_cases b1:k<l.length
  ·obtain⟨g,hg,b8,_,a1⟩:=Cf (Ba HT _ j) Ck;obtain⟨e1,e2,e3⟩:=Fu l k b1;have u0:=(a1 (k*2) Ck).trans e1;have u1:=(a1 (k*2+1) Ck).trans e2;have hd:l.drop k=l[k]::l.drop (k+1):=Brj b1;have m:=Ba f;unfold Cd.mapTys at m;rw[hd,Bw3]at m;generalize l[k]=t at *;obtain⟨B,C⟩:=t;simp only at u0 u1 m;have hm:=fun w h=>Ba HM B C w h;generalize Cd.mapTy T L B C=Z at *;have HZ:=Bc hm;have D:=Bc m;have kb:(k:Int)<(l.length:Int):=Ck;have b3:=Bg A (O7 B C);have a2:=j.alloc b6 (O7 B C);clear hm m hd a1 e1 e2 e3 f;subst hg;go_wp2_with fail;refine Qb (Ba HZ _ (Ba HO _ a2)) a2 ?_;intro w2 b4 b5;have b7:=stay b4 b3;clear b4 a2 b3 A j u0 u1 m0 m1 m2 m3 m4 m5 m6 m7 m8 m9 a6 a7 a8 a9 b0;cases Z with
   | false =>
    have q:Hid (R=false):=by unfold Hid;rw[<- Ba D];simp
    clear D;go_wp2;go_ret;exact⟨by rw[Ba q];rfl,b5⟩
   | true =>
    have q:Hid (Cd.mapTys T L (l.drop (k+1))=R):=by unfold Hid Cd.mapTys;rw[<- Ba D];simp
    clear D;go_wp2;go_roundw
    case rel=>exact⟨k+1,Ck,Mg,q,b5,b7⟩
    case measure=>simp[intOf];omega
  have q:Hid (R=true):=by unfold Hid;rw[<- Ba f,Brq Ck];rfl
  have kb:¬(k:Int)<(l.length:Int):=Ck;clear f;go_wp2;go_ret;exact⟨by rw[Ba q];rfl,j⟩
def Cd.mapMay(T:TI)(L:List Cd.Ins)(x:Rd.Mp):Bool:=(Cd.findAt x.place L).isSome&&(Cd.mapTys T L x.locals&&Cd.mapTys T L x.stack)
def Bhj(b:PBd)(f j:Nat)(x:Rd.Mp)(a0 a1:TA)(a2 a3:Nat)(w:TW)(l:b.ok w f)(b3:x.locals.length<=1000)(b4:x.stack.length<=1000)(a7:Cq w j (.s a0 x.locals.length a2) x.locals)(a8:Cq w j (.s a1 x.stack.length a3) x.stack):Calls prog 259 #[b.val,.agg #[.i x.place,.s a0 x.locals.length a2,.s a1 x.stack.length a3]] w fun e c=>e=.r (.bool (Cd.mapMay b.T b.L x))/\Bl w c:=by
 have m:=fun w (h:b.ok w f)=>Uo b.L b.la b.lc f x.place w h.2.1 h.2.2.2;have p:=fun c (h:Bl w c)=>Zw b f j x.locals a0 a2 c (l.below h) b3 (a7.kp (Kp.of_below (e:=none) h) Fm);have q:=fun c (h:Bl w c)=>Zw b f j x.stack a1 a3 c (l.below h) b4 (a8.kp (Kp.of_below (e:=none) h) Fm);have a9:∀c,Bl w c->b.ok c f:=fun c h=>l.below h;obtain⟨b5,b6,b7⟩:=x;unfold Cd.mapMay;simp only at m p q ⊢;generalize Cd.mapTys b.T b.L b6=M1 at *;generalize Cd.mapTys b.T b.L b7=M2 at *;generalize (Cd.findAt b5 b.L).isSome=B at *;obtain⟨c2,c3,c4,c5,c6,c7,tg,tc,ya,yn,yc,cl,nm,pa,pl,pc,r1,r2,lo,st,ca,cn,cc,ha,c8,hc,ma,ml,mc,la,lc,T,L⟩:=b;simp only[PBd.val]at m p q ⊢;have b8:=Bc m;have b9:=Bc p;have c0:=Bc q;have HO:=Bc a9;clear m p q a9 l a7 a8;go_in;go_wp2_with fail;refine Qm (Ba b8 _ (Ba HO _ (Bu _ _ _))) ?_;intro w1 t;have a4:=(Bu w _ _).trans (t.mono Fr);have v:=stay t (Cb w _ _);have g:=stay t (Bx w _ _);clear t;cases B with
 | false =>
  clear v g;go_wp2;go_ret;exact⟨rfl,a4⟩
 | true =>
  obtain⟨z,A,C,D,F,G,I,J,K,N,O,Q,V,Y,Z⟩:=Tk v;simp at z A C D F G I J K N O Q V Y Z;have x1:=Bb g 1;have x2:=Bb g 2;simp at x1 x2;go_wp2_with fail;refine Qb (Ba b9 _ a4) a4 ?_;intro w2 a5 a6;have b0:=stay a5 v;have b1:=stay a5 g;clear a5 x1 x2 z A C D F G I J K N O Q V Y Z v g;cases M1 with
  | false =>
   clear b0 b1;go_wp2;go_ret;exact⟨rfl,a6⟩
  | true =>
   obtain⟨z,A,C,D,F,G,I,J,K,N,O,Q,V,Y,Z⟩:=Tk b0;simp at z A C D F G I J K N O Q V Y Z;have x2:=Bb b1 2;simp at x2;go_wp2_with fail;refine Qm (Ba c0 _ a6) ?_;intro w3 c1;go_wp2;go_ret;exact⟨Hd,QB a6 c1⟩
def Cd.hndMay(T:TI)(L:List Cd.Ins)(cn:Int)(x:Rd.Hnd):Bool :=
 if x.til<=x.frm then false else if (Cd.findAt x.frm L).isSome=false then false else if (Cd.findAt x.target L).isSome=false then false
 else if x.til≠cn/\(Cd.findAt x.til L).isSome=false then false else Tr.within T x.cl 1
def Bhs(b:PBd)(K:Nat)(x:Rd.Hnd)(w:TW)(hb:b.ok w K):Calls prog 215 #[b.val,.agg #[.i x.frm,.i x.til,.i x.target,.i x.cl]] w fun e N=>e=.r (.bool (Cd.hndMay b.T b.L (b.cn:Int) x))/\Bl w N:=by
 have Z:=fun p w (h:b.ok w K)=>Uo b.L b.la b.lc K p w h.2.1 h.2.2.2;have a0:=fun w (h:b.ok w K)=>Pb (ya:=b.ya) (yn:=b.yn) (yc:=b.yc) b.T b.tg b.tc x.cl 1 w h.1 h.2.2.1;have b1:∀N,Bl w N->b.ok N K:=fun N h=>hb.below h;obtain⟨O,j,a3,b2⟩:=x;generalize Q:Cd.hndMay b.T b.L (b.cn:Int) ⟨O,j,a3,b2⟩=R;unfold Cd.hndMay at Q;simp only at a0 Q ⊢;have G:=fun w h=>Z O w h;have g:=fun w h=>Z a3 w h;have h3:=fun w h=>Z j w h;generalize (Cd.findAt O b.L).isSome=A at *;generalize (Cd.findAt a3 b.L).isSome=C at *;generalize (Cd.findAt j b.L).isSome=B at *;generalize Tr.within b.T b2 1=D at *;obtain⟨b6,b7,b8,b9,c0,c1,tg,tc,ya,yn,yc,cl,nm,pa,pl,pc,r1,r2,lo,st,ca,cn,cc,ha,c2,hc,ma,ml,mc,la,lc,T,L⟩:=b;simp only[PBd.val]at G g h3 a0 Q ⊢;have HA:=Bc G;have HC:=Bc g;have HB:=Bc h3;have HD:=Bc a0;have V:=Bc b1;clear Z G g h3 a0 b1 hb;have c:=Bc (fun (_:Unit)=>Q);clear Q;by_cases G:j<=O
 ·have f:Hid (R=false):=by unfold Hid;rw[<- Ba c ()];simp[G]
  clear c;go_in;go_wp2;go_ret;exact⟨by rw[Ba f];rfl,Bu _ _ _⟩
 go_in;go_wp2_with fail;refine Qm (Ba HA _ (Ba V _ (Bu _ _ _))) ?_;intro w1 a1;have a4:=(Bu w _ _).trans (a1.mono Fr);have I:=stay a1 (Cb w _ _);have a5:=stay a1 (Bx w _ _);clear a1;have l:=Bb I 2;have m:=Bb I 3;have q:=Bb I 11;have s:=Bb I 14;obtain⟨t,v,z,F⟩:=cl4 a5;simp at l m q s t v z F;cases A with
 | false =>
  have f:Hid (R=false):=by unfold Hid;rw[<- Ba c ()];simp
  clear c;go_wp2;go_ret;exact⟨by rw[Ba f];rfl,a4⟩
 | true =>
  go_wp2_with fail;refine Qb (Ba HC _ (Ba V _ a4)) a4 ?_;intro w2 a6 Y;have J:=stay a6 I;have a7:=stay a6 a5;clear a6 l m q s t v z F I a5;have l:=Bb J 2;have m:=Bb J 3;have q:=Bb J 11;have s:=Bb J 14;obtain⟨t,v,z,F⟩:=cl4 a7;simp at l m q s t v z F;cases C with
  | false =>
   have f:Hid (R=false):=by unfold Hid;rw[<- Ba c ()];simp
   clear c;go_wp2;go_ret;exact⟨by rw[Ba f];rfl,Y⟩
  | true =>
   by_cases g:j=(cn:Int)
   ·have b3:(j != (cn:Int))=false:=by simp[g]
    have b4:¬(cn:Int)<=O:=Ck;have f:Hid (R=D):=by unfold Hid;rw[<- Ba c ()];simp[g,b4]
    clear c g;go_wp2_with fail;refine Qm (Ba HD _ (Ba V _ Y)) ?_;intro w9 a8;go_wp2;go_ret;exact⟨by rw[Ba f];rfl,QB Y a8⟩
   have b3:(j != (cn:Int))=true:=by simp[g]
   go_wp2_with fail;refine Qb (Ba HB _ (Ba V _ Y)) Y ?_;intro w3 a9 b0;have a2:=stay a9 J;have b5:=stay a9 a7;clear a9 l m q s t v z F J a7;have l:=Bb a2 2;have m:=Bb a2 3;have q:=Bb a2 11;have s:=Bb a2 14;obtain⟨t,v,z,F⟩:=cl4 b5;simp at l m q s t v z F;cases B with
   | false =>
    have f:Hid (R=false):=by unfold Hid;rw[<- Ba c ()];simp[g]
    clear c;go_wp2;go_ret;exact⟨by rw[Ba f];rfl,b0⟩
   | true =>
    have f:Hid (R=D):=by unfold Hid;rw[<- Ba c ()];simp[G,g]
    clear c;go_wp2_with fail;refine Qm (Ba HD _ (Ba V _ b0)) ?_;intro w9 a8;go_wp2;go_ret;exact⟨by rw[Ba f];rfl,QB b0 a8⟩
def Bq9(l:List (Rd.Mth×Ex))(k:Nat)(b:k<l.length):(Lj l)[k*10]?=some (.i l[k].1.cl)/\k*10<(Lj l).length:=by
 have h:=Nk (fun x:Rd.Mth×Ex=>Mb x.1 x.2) 10 (fun _=>rfl) l k b 0 Ck;have c:=Kx (fun x:Rd.Mth×Ex=>Mb x.1 x.2) 10 (fun _=>rfl) l;refine⟨?_,?_⟩
 ·unfold Lj;rw[show k*10=k*10+0 by omega,h];rfl
 unfold Lj;rw[c];omega
def Cd.hasM(ow:TI)(n:Int)(ofc:Bool):Bool:=if n<0 then false else if (ow.length:Int)<=n then false else ((ow.getD n.toNat 0 != 255)==ofc)
def Bna(b:PBd)(C:Nat)(c:List (Rd.Mth×Ex))(n:Int)(h:Bool)(w:TW)(j:b.fl2=c.length)(G:c.length<=1000)(f:Eb w C (.s b.fa2 b.fl2 b.fc2) c):Calls prog 257 #[b.val,.i n,.bool h] w fun e D=>e=.r (.bool (Cd.hasM (c.map fun p=>p.1.cl) n h))/\Bl w D:=by
 unfold Cd.hasM;rw[Br1];obtain⟨I,J,K,N,O,Q,V,Y,ya,yn,yc,Z,nm,pa,pl,pc,r1,r2,lo,st,ca,cn,cc,ha,a0,hc,ma,ml,mc,la,lc,T,L⟩:=b;simp only at j f;subst j;simp only[PBd.val];by_cases l:n<0;·rw[Th l];go_in;go_wp2;go_ret;exact⟨rfl,QN _⟩
 rw[Pk l];by_cases m:(c.length:Int)<=n;·rw[Th m];go_in;go_wp2;go_ret;exact⟨rfl,QN _⟩
 rw[Pk m];obtain⟨q,rfl⟩:=Brp (show 0<=n by omega);have t:q<c.length:=Ck;obtain⟨g,F,a1,_,v⟩:=Cf f.1 Ck;obtain⟨z,A⟩:=Bq9 c q t;have y0:=(v _ A).trans z;have B:(c.map fun p=>p.1.cl).getD q 0=c[q].1.cl:=by simp[Vm,t]
 rw[Brx,B];generalize c[q].1.cl=oc at *;have kb:(q:Int)<(c.length:Int):=Ck;clear B z A v f;subst F;go_in;go_wp2;go_ret;exact⟨rfl,QN _⟩
def Cd.fieldSum:List Rd.Cls->Nat
 | []=>0
 | c::r=>c.fields.length+Cd.fieldSum r
def Bab(h B:TA)(j C D O:Nat)(l:List (Rd.Cls×Value))(w:TW)(hl:l.length<=6)(Q:∀p∈l,p.1.fields.length<=1000)(V:Fh w O (.s h l.length j) l):Calls prog 256 #[.agg #[.s h l.length j,.s B C D]] w fun e Y=>e=.r (.i (Cd.fieldSum (l.map Prod.fst):Int))/\Bl w Y:=by
 generalize F:(Cd.fieldSum (l.map Prod.fst):Int)=R;have b:Hid (((0+Cd.fieldSum ((l.map Prod.fst).drop 0):Nat):Int)=R):=by unfold Hid;rw[<- F];simp
 clear F;have G:Bl w (w.alloc (O1 h l.length j B C D)):=QN _;go_in;go_wp2
 go_loopw [3,9] (fun u v wr=>∃k t:Nat,k<=l.length/\v=.i (k:Int)/\u=.i (t:Int)/\t<=1000*k/\Hid (((t+Cd.fieldSum ((l.map Prod.fst).drop k):Nat):Int)=R)/\Bl w wr)
  (fun _ v _=>l.length-(intOf v).toNat)
 case atStart=>exact⟨0,0,Ck,rfl,rfl,Ck,b,G⟩
 case round=>
  clear b G;obtain⟨k,t,hk,rfl,rfl,a4,b,c⟩:=hrel;have Z:=c.size;by_cases f:k<l.length
  ·have m:=V.kp (Kp.of_below (e:=none) c) Fm Fm;obtain⟨g,hg,a5,_,q⟩:=Cf m.1 Ck;obtain⟨I,J,K⟩:=Nm l k f;have x0:=(q _ Ck).trans I;have x1:=(q _ K).trans J;obtain⟨ua,uc,L⟩:=Bh (m.2 _ (Brn f));rw[L]at x1;have a6:=Q _ (Brn f);have N:(l.map Prod.fst).drop k=l[k].1::(l.map Prod.fst).drop (k+1):=by
    rw[Brj (by simpa using f)];simp
   have z:=Ba b;rw[N,Cd.fieldSum]at z;generalize l[k].1.fields.length=A at *;generalize l[k].1.above=ab at *;have a0:Hid (((t+A+Cd.fieldSum ((l.map Prod.fst).drop (k+1)):Nat):Int)=R):=by unfold Hid;rw[<- z];omega
   have kb:(k:Int)<(l.length:Int):=Ck;have a3:=c.alloc Z (O5 ab ua A uc);clear z N q I J K m L b;subst hg;go_wp2;go_roundw
   case rel=>exact⟨k+1,t+A,Ck,Mg,Mg,Ck,a0,a3⟩
   case measure=>simp[intOf];omega
  have HF:Hid ((t:Int)=R):=by unfold Hid;rw[<- Ba b,Brq Fr];simp[Cd.fieldSum]
  have kb:¬(k:Int)<(l.length:Int):=Ck;clear b;go_wp2;go_ret;exact⟨by rw[<- Ba HF];rfl,c⟩
def Cd.argP(T:TI)(nf:Int)(ow:TI)(lo:Int)(L:List Cd.Ins)(op n:Int):Bool :=
 if op=2\/op=3 then decide (n<lo)
 else if 11<=op/\op<=14 then (Cd.findAt n L).isSome
 else if op=15\/op=16\/op=19 then Tr.hasB T n
 else if op=17\/op=18 then decide (n<nf)
 else if op=20 then Cd.hasM ow n false
 else if op=21 then Cd.hasM ow n true
 else true
def Bkh(b:PBd)(bb bm:Nat)(f:List (Rd.Cls×Value))(j:List (Rd.Mth×Ex))(p op n:Int)(w:TW)(hb:b.ok w bb)(a1:b.fl1=f.length)(a2:b.fl2=j.length)(b4:j.length<=1000)(b5:f.length<=6)(a8:∀p∈f,p.1.fields.length<=1000) (a3:Fh w bm (.s b.fa1 b.fl1 b.fc1) f)(a9:Eb w bm (.s b.fa2 b.fl2 b.fc2) j):Calls prog 214 #[b.val,.agg #[.i p,.i op,.i n]] w fun e g => e=.r (.bool (Cd.argP b.T (Cd.fieldSum (f.map Prod.fst):Int) (j.map fun p=>p.1.cl) b.lo b.L op n))/\Bl w g:=by
 have a4:=fun w (h:b.ok w bb)=>Uo b.L b.la b.lc bb n w h.2.1 h.2.2.2;have a5:=fun w=>A8 (ya:=b.ya) (yn:=b.yn) (yc:=b.yc) b.T (.p b.tg) b.tc n w;have a6:=fun o g (h:Bl w g)=>Bna b bm j n o g a2 b4 (a9.kp (Kp.of_below (e:=none) h) Fm Fm Fm Fm Fm);have a7:∀g,Bl w g->Calls prog 256 #[.agg #[.s b.fa1 b.fl1 b.fc1,.s b.fa2 b.fl2 b.fc2]] g fun e w2=>e=.r (.i (Cd.fieldSum (f.map Prod.fst):Int))/\Bl g w2:=by
  intro g h;rw[a1]at a3 ⊢;exact Bab b.fa1 b.fa2 b.fc1 b.fl2 b.fc2 bm f g b5 a8 (a3.kp (Kp.of_below (e:=none) h) Fm Fm)
 have b0:∀g,Bl w g->b.ok g bb:=fun g h=>hb.below h;generalize l:Cd.argP b.T (Cd.fieldSum (f.map Prod.fst):Int) (j.map fun p=>p.1.cl) b.lo b.L op n=R;unfold Cd.argP at l;generalize (Cd.fieldSum (f.map Prod.fst):Int)=nf at *;generalize Cd.hasM (j.map fun p=>p.1.cl) n=b1 at *;generalize (Cd.findAt n b.L).isSome=B at *;generalize Tr.hasB b.T n=K at *;obtain⟨t,c4,v,z,c5,A,F,G,ya,yn,yc,I,J,N,O,Q,V,Y,D,Z,ca,cn,cc,ha,a0,hc,ma,ml,mc,la,lc,T,L⟩:=b;simp only at a1 a2;subst a1 a2;simp only[PBd.val]at a4 a5 a6 a7 l ⊢;have b6:=Bc a4;have b7:=Bc a5;have b2:=Bc a6;have b3:=Bc a7;have HO:=Bc b0;clear a4 a5 a6 a7 b0 hb a3 a9 a8;by_cases c:op=2\/op=3
 ·rcases c with rfl|rfl
  all_goals
   have q:Hid (R=decide (n<D)):=by unfold Hid;rw[<- l];simp
   clear l;go_in;go_wp2;go_ret;exact⟨by rw[Ba q];rfl,Bu _ _ _⟩
 have n2:(op==2)=false:=Fr;have n3:(op==3)=false:=Fr;have i2:=c;clear c;by_cases c:op=11\/op=12\/op=13\/op=14
 ·rcases c with rfl|rfl|rfl|rfl
  all_goals
   have q:Hid (R=B):=by unfold Hid;rw[<- l];simp
   clear l;go_in;go_wp2_with fail;refine Qm (Ba b6 _ (Ba HO _ (Bu _ _ _))) ?_;intro w2 m;go_wp2;go_ret;exact⟨by rw[Ba q];rfl,(Bu _ _ _).trans (m.mono Fr)⟩
 have c6:(op==11)=false:=Fr;have c7:(op==12)=false:=Fr;have c8:(op==13)=false:=Fr;have c9:(op==14)=false:=Fr;have b8:=c;clear c;by_cases c:op=15\/op=16\/op=19
 ·rcases c with rfl|rfl|rfl
  all_goals
   have q:Hid (R=K):=by unfold Hid;rw[<- l];simp
   clear l;go_in;go_wp2_with fail;refine Qm (Ba b7 _) ?_;intro w2 m;go_wp2;go_ret;exact⟨by rw[Ba q];rfl,(Bu _ _ _).trans (m.mono Fr)⟩
 have d0:(op==15)=false:=Fr;have d1:(op==16)=false:=Fr;have d2:(op==19)=false:=Fr;have b9:=c;clear c;by_cases c:op=17
 ·subst c;have CB:=Cb w (O16 t f.length v z j.length A (.p F) T.length G ya yn yc I J N O Q V Y D Z ca cn cc ha a0 hc ma ml mc la L.length lc) (O15 p 17 n);have CI:=Bx w (O16 t f.length v z j.length A (.p F) T.length G ya yn yc I J N O Q V Y D Z ca cn cc ha a0 hc ma ml mc la L.length lc) (O15 p 17 n);have f0:((w.alloc (O16 t f.length v z j.length A (.p F) T.length G ya yn yc I J N O Q V Y D Z ca cn cc ha a0 hc ma ml mc la L.length lc)).alloc (O15 p 17 n)).C w.heap.size 0 (.s t f.length v):=Bb CB 0;have f1:((w.alloc (O16 t f.length v z j.length A (.p F) T.length G ya yn yc I J N O Q V Y D Z ca cn cc ha a0 hc ma ml mc la L.length lc)).alloc (O15 p 17 n)).C w.heap.size 1 (.s z j.length A):=Bb CB 1;have g2:((w.alloc (O16 t f.length v z j.length A (.p F) T.length G ya yn yc I J N O Q V Y D Z ca cn cc ha a0 hc ma ml mc la L.length lc)).alloc (O15 p 17 n)).C (w.heap.size+1) 2 (.i n):=Bb CI 2;have lF:=Sp CB;have lI:=Sp CI;have q:Hid (R=decide (n<nf)):=by unfold Hid;rw[<- l];simp
  clear l;go_in;go_wp2
  go_region_held3 (fun g=>g.C w.heap.size 0 (.s t f.length v)/\g.C w.heap.size 1 (.s z j.length A)/\g.C (w.heap.size+1) 2 (.i n))
   (first|exact⟨f0,f1,g2⟩|exact⟨QC m lF f0,QC m lF f1,QC m lI g2⟩)
   (first|(go_at_call 256;refine(Ba b3 _ (Bu _ _ _).drew).mono ?_;rintro e w2 ⟨rfl,m⟩))
  all_goals
   go_wp2;go_ret;exact⟨by rw[Ba q];rfl,(Bu _ _ _).drew.trans (m.mono Fr)⟩
 have d3:(op==17)=false:=by simp[c]
 have c0:=c;clear c;by_cases c:op=18
 ·subst c;have CB:=Cb w (O16 t f.length v z j.length A (.p F) T.length G ya yn yc I J N O Q V Y D Z ca cn cc ha a0 hc ma ml mc la L.length lc) (O15 p 18 n);have CI:=Bx w (O16 t f.length v z j.length A (.p F) T.length G ya yn yc I J N O Q V Y D Z ca cn cc ha a0 hc ma ml mc la L.length lc) (O15 p 18 n);have f0:((w.alloc (O16 t f.length v z j.length A (.p F) T.length G ya yn yc I J N O Q V Y D Z ca cn cc ha a0 hc ma ml mc la L.length lc)).alloc (O15 p 18 n)).C w.heap.size 0 (.s t f.length v):=Bb CB 0;have f1:((w.alloc (O16 t f.length v z j.length A (.p F) T.length G ya yn yc I J N O Q V Y D Z ca cn cc ha a0 hc ma ml mc la L.length lc)).alloc (O15 p 18 n)).C w.heap.size 1 (.s z j.length A):=Bb CB 1;have g2:((w.alloc (O16 t f.length v z j.length A (.p F) T.length G ya yn yc I J N O Q V Y D Z ca cn cc ha a0 hc ma ml mc la L.length lc)).alloc (O15 p 18 n)).C (w.heap.size+1) 2 (.i n):=Bb CI 2;have lF:=Sp CB;have lI:=Sp CI;have q:Hid (R=decide (n<nf)):=by unfold Hid;rw[<- l];simp
  clear l;go_in;go_wp2
  go_region_held3 (fun g=>g.C w.heap.size 0 (.s t f.length v)/\g.C w.heap.size 1 (.s z j.length A)/\g.C (w.heap.size+1) 2 (.i n))
   (first|exact⟨f0,f1,g2⟩|exact⟨QC m lF f0,QC m lF f1,QC m lI g2⟩)
   (first|(go_at_call 256;refine(Ba b3 _ (Bu _ _ _).drew).mono ?_;rintro e w2 ⟨rfl,m⟩))
  all_goals
   go_wp2;go_ret;exact⟨by rw[Ba q];rfl,(Bu _ _ _).drew.trans (m.mono Fr)⟩
 have d4:(op==18)=false:=by simp[c]
 have c1:=c;clear c;by_cases c:op=20
 ·subst c;have q:Hid (R=b1 false):=by unfold Hid;rw[<- l];simp
  clear l;go_in;go_wp2_with fail;refine Qm (Ba b2 false _ (Bu _ _ _)) ?_;intro w2 m;go_wp2;go_ret;exact⟨by rw[Ba q];rfl,(Bu _ _ _).trans (m.mono Fr)⟩
 have d5:(op==20)=false:=by simp[c]
 have c2:=c;clear c;by_cases c:op=21
 ·subst c;have q:Hid (R=b1 true):=by unfold Hid;rw[<- l];simp
  clear l;go_in;go_wp2_with fail;refine Qm (Ba b2 true _ (Bu _ _ _)) ?_;intro w2 m;go_wp2;go_ret;exact⟨by rw[Ba q];rfl,(Bu _ _ _).trans (m.mono Fr)⟩
 have d6:(op==21)=false:=by simp[c]
 have c3:=c;clear c;have q:Hid (R=true):=by
  unfold Hid;rw[<- l,Pk Ck,Pk Ck,Pk Ck,Pk Ck,Pk Ck,Pk Ck]
 clear l i2 b8 b9 c0 c1 c2 c3;go_in;go_wp2;go_ret;exact⟨by rw[Ba q];rfl,Bu _ _ _⟩
def Cd.inMaps(T:TI)(L:List Cd.Ins):Nat->Int->List Rd.Mp->Int
 | _,_,[]=>-1
 | i,low,x::r=>if x.place<low then (i:Int) else if Cd.mapMay T L x=false then (i:Int) else Cd.inMaps T L (i+1) (x.place+1) r
def Cd.faultOf(r:Int):Int × Int:=if r<0 then (0,0) else (7,r)
def Bhq(b:PBd)(bb b2:Nat)(c:List (Rd.Mp×Value×Value))(w:TW)(hb:b.ok w bb)(b9:b.ml=c.length)(f2:c.length<=1000)(c0:∀p∈c,p.1.locals.length<=1000/\p.1.stack.length<=1000/\-1000<=p.1.place/\p.1.place<=1000)(c1:Mf w b2 (.s b.ma b.ml b.mc) c):Calls prog 216 #[b.val] w fun e m => e=.r (.agg #[.i (Cd.faultOf (Cd.inMaps b.T b.L 0 0 (c.map Prod.fst))).1,.i 0,.i (Cd.faultOf (Cd.inMaps b.T b.L 0 0 (c.map Prod.fst))).2])/\Bl w m:=by
 have b0:=fun x q t z A m (h:Bl w m) h1 h2 h3 h4=>Bhj b bb b2 x q t z A m (hb.below h) h1 h2 h3 h4;have b1:∀m,Bl w m->Mf m b2 (.s b.ma b.ml b.mc) c:=fun m h=>c1.kp (Kp.of_below (e:=none) h) Fm Fm;generalize F:Cd.inMaps b.T b.L 0 0 (c.map Prod.fst)=r;have B:Hid (Cd.inMaps b.T b.L 0 0 ((c.map Prod.fst).drop 0)=r):=F;generalize hF:Cd.faultOf r=Fa;have HF:=Bc hF;clear F hF hb c1;obtain⟨V,Y,Z,a0,a1,a2,tg,tc,ya,yn,yc,cl,nm,pa,pl,pc,r1,r2,lo,st,ca,cn,cc,ha,a3,hc,ma,ml,mc,la,lc,T,L⟩:=b;simp only at b9;subst b9;simp only[PBd.val]at b0 b1 B ⊢;have d4:=Bc b0;have d5:=Bc b1;have d6:=Bc c0;clear b0 b1 c0;have c2:=Bu w (O16 V Y Z a0 a1 a2 (.p tg) T.length tc ya yn yc cl nm pa pl pc r1 r2 lo st ca cn cc ha a3 hc ma c.length mc la L.length lc) (O8 0 0 0);have c3:=Cb w (O16 V Y Z a0 a1 a2 (.p tg) T.length tc ya yn yc cl nm pa pl pc r1 r2 lo st ca cn cc ha a3 hc ma c.length mc la L.length lc) (O8 0 0 0);have c4:=Bx w (O16 V Y Z a0 a1 a2 (.p tg) T.length tc ya yn yc cl nm pa pl pc r1 r2 lo st ca cn cc ha a3 hc ma c.length mc la L.length lc) (O8 0 0 0);go_in;go_wp2
 go_loopw [3,10] (fun u v wr=>∃(k:Nat) (a4:Int),k<=c.length/\v=.i (k:Int)/\u=.i a4/\Hid (Cd.inMaps T L k a4 ((c.map Prod.fst).drop k)=r)/\Bl w wr /\
   wr.heap[w.heap.size]?=some (O16 V Y Z a0 a1 a2 (.p tg) T.length tc ya yn yc cl nm pa pl pc r1 r2 lo st ca cn cc ha a3 hc ma c.length mc la L.length lc)/\wr.heap[w.heap.size+1]?=some (O8 0 0 0))
  (fun _ v _=>c.length-(intOf v).toNat)
 case atStart=>exact⟨0,0,Ck,rfl,rfl,B,c2,c3,c4⟩
 case round=>
  clear B c2 c3 c4;obtain⟨k,a4,hk,rfl,rfl,B,K,CB,G⟩:=hrel;obtain⟨m0,m1,m2,m3,m4,m5,m6,m7,m8,m9,c5,c6,c7,c8,c9⟩:=Tk CB;simp at m0 m1 m2 m3 m4 m5 m6 m7 m8 m9 c5 c6 c7 c8 c9;have d7:=K.size;have lB:=Sp CB;have lR:=Sp G;by_cases l:k<c.length
  ·have b3:=Ba d5 _ K;obtain⟨g,hg,f3,_,a5⟩:=Cf b3.1 Ck;have y0:=(a5 _ (Eh c k l 0 Ck).2).trans (Eh c k l 0 Ck).1;have y1:=(a5 _ (Eh c k l 1 Ck).2).trans (Eh c k l 1 Ck).1;have y2:=(a5 _ (Eh c k l 2 Ck).2).trans (Eh c k l 2 Ck).1;obtain⟨a6,a7⟩:=b3.2 _ (Brn l);obtain⟨d0,d1,d8,d9⟩:=Ba d6 _ (Brn l);have hd:(c.map Prod.fst).drop k=c[k].1::(c.map Prod.fst).drop (k+1):=by
    rw[Brj (by simpa using l)];simp
   have F:=Ba B;rw[hd,Cd.inMaps]at F;generalize c[k]=x at *;obtain⟨⟨f,I,J⟩,v1,v2⟩:=x;simp only at y0 y1 y2 a6 a7 d0 d1 F d8 d9;obtain⟨q,z,rfl⟩:=Bh a6;obtain⟨t,A,rfl⟩:=Bh a7;simp at y0 y1 y2;have a8:=K.alloc d7 (O17 f q I.length z t J.length A);have b4:Bl wr (wr.alloc (O17 f q I.length z t J.length A)):=QN _;have b5:=Ba d4 ⟨f,I,J⟩ q t z A _ a8 d0 d1 (a6.kp (Kp.of_below (e:=none) b4) Fm) (a7.kp (Kp.of_below (e:=none) b4) Fm);simp only at b5;generalize Cd.mapMay T L ⟨f,I,J⟩=M at *;have d2:=Be wr (O17 f q I.length z t J.length A);have d3:=Bg CB (O17 f q I.length z t J.length A);have b6:=Bg G (O17 f q I.length z t J.length A);have HM:=Bc b5;have N:=Bc F;have kb:(k:Int)<(c.length:Int):=Ck;clear b5 F hd a5 B a6 a7 b3 b4;subst hg;by_cases b7:f<a4
   ·have Q:Hid (Fa=(7,(k:Int))):=by
     unfold Hid;rw[<- Ba HF,<- Ba N,Th b7,Cd.faultOf,Pk Ck]
    obtain⟨q0,q1,q2⟩:=fr3 G;obtain⟨j,C,D⟩:=cl3 G;simp at j C D;clear N HM;go_wp2_with fail;refine tb (.agg #[.i 7,.i 0,.i (k:Int)]) (by simp[results,Bwh,go_sem,j,C,D,lR]) ?_;rw[Ba Q];exact⟨rfl,by repeat (first|refine Bry ?_ Hd _|refine Bs4 ?_ (by first|omega|(simp;omega)) _|exact K)⟩
   cases M with
   | false =>
    have Q:Hid (Fa=(7,(k:Int))):=by
     unfold Hid;rw[<- Ba HF,<- Ba N,Pk b7,Th rfl,Cd.faultOf,Pk Ck]
    clear N;go_wp2_with fail;refine Qb (Ba HM) a8 ?_;intro w2 O b8;have a9:=stay O b6;obtain⟨q0,q1,q2⟩:=fr3 a9;obtain⟨j,C,D⟩:=cl3 a9;simp at j C D;go_wp2_with fail;refine tb (.agg #[.i 7,.i 0,.i (k:Int)]) (by simp[results,Bwh,go_sem,j,C,D]) ?_;rw[Ba Q];exact⟨rfl,((b8.setCell Hd _).setCell Hd _).setCell Hd _⟩
   | true =>
    have HG:Hid (Cd.inMaps T L (k+1) (f+1) ((c.map Prod.fst).drop (k+1))=r):=by unfold Hid;rw[<- Ba N,Pk b7];simp
    clear N;go_wp2_with fail;refine Qb (Ba HM) a8 ?_;intro w2 O b8;have f0:=stay O d3;have a9:=stay O b6;have f1:=stay O d2;have j:=Bb f1 0;simp at j;clear O a8 d3 b6 d2 K CB G m0 m1 m2 m3 m4 m5 m6 m7 m8 m9 c5 c6 c7 c8 c9 y0 y1 y2;go_wp2;go_roundw
    case rel=>exact⟨k+1,f+1,Ck,Mg,Mg,HG,b8,f0,a9⟩
    case measure=>simp[intOf];omega
  have Q:Hid (Fa=(0,0)):=by
   unfold Hid;rw[<- Ba HF,<- Ba B,Brq Fr];rfl
  have kb:¬(k:Int)<(c.length:Int):=Ck;obtain⟨q0,q1,q2⟩:=fr3 G;obtain⟨j,C,D⟩:=cl3 G;simp at j C D;clear B;go_wp2_with fail;refine tb (.agg #[.i 0,.i 0,.i 0]) (by simp[results,Bwh,go_sem,j,C,D]) ?_;rw[Ba Q];exact⟨rfl,((K.setCell Hd _).setCell Hd _).setCell Hd _⟩
namespace Cd
def Bf6(b:TI)(n:Int)(h:0<=n):hasM b n false=(decide (n<(b.length:Int))&&(b.getD n.toNat 0==255))/\hasM b n true=(decide (n<(b.length:Int))&&(b.getD n.toNat 0 != 255)):=by
 unfold hasM;have e:¬n<0:=Ck;simp only[Pk e];by_cases c:(b.length:Int)<=n;·have:decide (n<(b.length:Int))=false:=Fr;simp only[Th c,this];simp
 have:decide (n<(b.length:Int))=true:=Fr;simp only[Pk c,this];cases f:(b.getD n.toNat 0 != 255)<;>simp_all
def argP_eq(T:TI)(m:Int)(f:TI)(p:Int)(c:TI)(op n:Int)(h:op=20\/op=21->0<=n):argP T m f p (insts c) op n=argB T m f p c op n:=by
 unfold argP argB;rw[find_beg];by_cases g:op=2\/op=3;·rw[Th g,Th g]
 rw[Pk g,Pk g];by_cases i:11<=op/\op<=14;·rw[Th i,Th i]
 rw[Pk i,Pk i];by_cases j:op=15\/op=16\/op=19;·rw[Th j,Th j]
 rw[Pk j,Pk j];by_cases l:op=17\/op=18;·rw[Th l,Th l]
 rw[Pk l,Pk l];by_cases b:op=20;·rw[Th b,Th b];exact(Bf6 f n (h (.inl b))).1
 rw[Pk b,Pk b];by_cases e:op=21;·rw[Th e,Th e];exact(Bf6 f n (h (.inr e))).2
 rw[Pk e,Pk e]
def Bmx(T c:TI)(k n:Int):mapTy T (insts c) k n=framed T c k n:=by
 unfold mapTy framed Tr.settledB Tr.plainB;by_cases b:k=4;·rw[Th b,Bnd,Pk Ck,Pk Ck,Th b]
 rw[Pk b];by_cases f:k=0\/k=2;·rw[Th f,Th Ck]
 rw[Pk f];by_cases g:k=1;·rw[Th g,Th Ck]
 have q:¬(k=0\/k=1\/k=2):=Ck;rw[Pk g,Pk q];by_cases e:k=3;·rw[Th e,Th e]
 rw[Pk e,Pk e,Pk b]
def Ba6(T c:TI)(l:TP):mapTys T (insts c) l=frAll T c l:=by
 unfold mapTys frAll
 congr 1
 funext t
 exact Bmx T c t.1 t.2
def inMaps_eq(T c:TI)(l:List Rd.Mp):∀(i:Nat) (b:Int),inMaps T (insts c) i b l=mapsBad T c i (b-1) l:=by
 induction l with
 | nil=>intro i b;rfl
 | cons x r ih =>
  intro i b;rw[inMaps,mapsBad,ih];unfold mapMay;rw[find_beg,Ba6,Ba6];by_cases e:x.place<b;·rw[Th e,Th (show x.place<=b-1 by omega)];simp
  rw[Pk e,Pk (show ¬x.place<=b-1 by omega)];cases begB c x.place<;>cases frAll T c x.locals<;>cases frAll T c x.stack<;>simp
def hndMay_eq{z:TI}(m:Tr.Ok z)(A:1<z.length)(c:TI)(x:Rd.Hnd):hndMay z (insts c) (c.length:Int) x = !hndBad z c x:=by
 have p:Tr.within z x.cl 1=(if x.cl=1 then true else Tr.below z x.cl 1):=by
  unfold Tr.within;by_cases h:x.cl=1<;>simp[h]
 unfold hndMay hndBad;rw[find_beg,find_beg,find_beg,p];by_cases f:x.til<=x.frm;·rw[Th f];simp[f]
 rw[Pk f];have q:decide (x.til<=x.frm)=false:=by simpa using f
 rw[q];cases begB c x.frm
 ·simp
 cases begB c x.target
 ·simp
 have s:(if x.cl=1 then true else Tr.below z x.cl 1)=(Tr.hasB z x.cl&&Tr.rbel z x.cl 1):=by
  by_cases i:Tr.hasB z x.cl=true
  ·rw[i,Bts];have j:0<=x.cl/\x.cl<(z.length:Int):=by simpa[Tr.hasB] using i
   have e:=Tr.rbel_iff m (a:=x.cl) (b:=1) j.1 j.2 Ck;by_cases h:x.cl=1;·rw[Th h];exact(e.2 (.inl h.symm)).symm
   rw[Pk h];refine Bool.eq_iff_iff.2 ⟨fun g=>e.2 (.inr g),fun g=>?_⟩;rcases e.1 g with g|g
   ·exact absurd g.symm h
   exact g
  have t:Tr.hasB z x.cl=false:=by simpa using i
  rw[t,Bt6];have B:¬(0<=x.cl/\x.cl<(z.length:Int)):=by simpa[Tr.hasB] using i
  rw[Pk Ck];have v:Tr.ov z x.cl = -1:=by
   unfold Tr.ov;by_cases g:x.cl<0;·rw[Th g]
   rw[Pk g,Th Ck]
  unfold Tr.below;rw[v];cases z.length<;>simp[Tr.upTo]
 rw[s];by_cases l:x.til=(c.length:Int);·cases begB c x.til<;>cases Tr.hasB z x.cl<;>cases Tr.rbel z x.cl 1<;>simp[l]
 cases begB c x.til<;>cases Tr.hasB z x.cl<;>cases Tr.rbel z x.cl 1<;>simp[l]
def Beb(a b:List Rd.Cls):fieldSum (a++b)=fieldSum a+fieldSum b:=by
 induction a with
 | nil=>simp[fieldSum]
 | cons x r ih=>rw[Bs5,fieldSum,fieldSum,ih];omega
def fields_eq(T:TI)(b:List Rd.Cls)(j:Nat)(f:j<=b.length):(Rf.fieldsTo T (Rf.given++b) j).length=fieldSum (b.take j):=by
 induction j with
 | zero=>simp[Rf.fieldsTo,fieldSum]
 | succ k ih =>
  have c:k<b.length:=Ck;have e:(Rf.given++b).getD (7+k) ⟨0,[]⟩=b[k]:=by
   rw[Vm,Br0 (by simp[Rf.given])];simp[Rf.given,c]
  rw[Rf.fieldsTo,Ws,Rf.ownOf,Na,e,ih Ck,Bss c,Beb];simp[fieldSum]
end Cd
def Ju (f:Cd.Ins->Bool):List Cd.Ins->Int
 | []=>-1
 | x::r=>if f x=true then x.place else Ju f r
def Lp (T:TI)(nf:Int)(ow:TI)(lo:Int)(L:List Cd.Ins)(x:Cd.Ins):Bool:=!Cd.argP T nf ow lo L x.op x.n
def N3 (T:TI)(L:List Cd.Ins)(cn:Int)(x:Rd.Hnd):Bool:=!Cd.hndMay T L cn x
def Mt (T:TI)(nf:Int)(ow:TI)(m:Rd.Mth):Int × Int :=
 if 0<=Cd.unread m.code then (5,Cd.unread m.code)
 else if 0<=Ju (Lp T nf ow m.locals (Cd.insts m.code)) (Cd.insts m.code) then (5,Ju (Lp T nf ow m.locals (Cd.insts m.code)) (Cd.insts m.code))
 else if 0<=Cd.firstIx (N3 T (Cd.insts m.code) (m.code.length:Int)) 0 m.handlers then (6,Cd.firstIx (N3 T (Cd.insts m.code) (m.code.length:Int)) 0 m.handlers)
 else Cd.faultOf (Cd.inMaps T (Cd.insts m.code) 0 0 m.maps)
def Gn (T:TI)(nf:Int)(ow:TI):Nat->List Rd.Mth->Int × Int × Int
 | _,[]=>(0,0,0)
 | k,m::r=>if (Mt T nf ow m).1≠0 then ((Mt T nf ow m).1,(k:Int),(Mt T nf ow m).2) else Gn T nf ow (k+1) r
def No (T:TI)(r1 r2:Int):Bool:=if r1=0/\r2=0 then true else Tr.plainB T r1 r2
def Le (a b:Rd.Mth):Bool:=if a.result≠b.result then false else decide (a.params=b.params)
def N2 (T:TI)(m:Rd.Mth):Bool :=
 if Tr.allPlainB T m.params=false then false else if No T m.result.1 m.result.2=false then false
 else if m.cl=255 then (if m.name=0 then decide ((m.params.length:Int)<=m.locals) else false)
 else if m.cl<7 then false else if Tr.hasB T m.cl=false then false else decide ((m.params.length:Int)<m.locals)
def Kt (m o:Rd.Mth):Bool:=(o.cl==m.cl)&&(o.name==m.name)
def Hu (T:TI)(m o:Rd.Mth):Bool:=(o.name==m.name)&&(Tr.below T m.cl o.cl && !Le o m)
def Ox (es:List Rd.Mth)(m:Rd.Mth):Bool:=if m.cl=255 then false else es.any (Kt m)
def Ku (T:TI)(ms:List Rd.Mth)(m:Rd.Mth):Bool:=if m.cl=255 then false else ms.any (Hu T m)
def Sl (T:TI)(ms:List Rd.Mth)(k:Nat)(m:Rd.Mth):Bool :=
 if N2 T m=false then true else if Ox (ms.take k) m=true then true else Ku T ms m
def Iu (T:TI)(ms:List Rd.Mth):Nat->List Rd.Mth->Int
 | _,[]=>-1
 | k,m::r=>if Sl T ms k m=true then (k:Int) else Iu T ms (k+1) r
def Vb (T:TI)(nf:Int)(ms:List Rd.Mth):Int × Int × Int :=
 if 0<=Iu T ms 0 ms then (4,Iu T ms 0 ms,0) else Gn T nf (ms.map Rd.Mth.cl) 0 ms
def Lo (f:Rd.Fil):Int × Int × Int :=
 if (Tr.inCl (Tr.tree f.classes) 0 f.classes).1≠0 then ((Tr.inCl (Tr.tree f.classes) 0 f.classes).1,(Tr.inCl (Tr.tree f.classes) 0 f.classes).2,0)
 else Vb (Tr.tree f.classes) (Cd.fieldSum f.classes:Int) f.methods
def Gx (s:TB):Int × Int × Int:=if (Rd.read s).2≠0 then ((Rd.read s).2,0,0) else Lo (Rd.read s).1
def Wy{f:Nat->Bool}{l:List Nat}(h:Cd.first f l<0):∀p∈l,f p=false:=by
 induction l with
 | nil=>simp
 | cons p r ih =>
  obtain⟨c,e⟩:=Bbk h;intro q b;simp only[Bub]at b;rcases b with rfl|b
  ·exact c
  exact ih e q b
def Bnq{z:TI}{c:Int}{e:TI}{B:Int}{b:TI}{op:Int}(h:Cd.wd op=1)(n f:Int):Cd.argB z c e B b op n=Cd.argB z c e B b op f:=by
 unfold Cd.wd at h;have i:¬(op=0\/op=2\/op=3\/(11<=op/\op<=21)):=by
  intro g;rw[Th g]at h;omega
 unfold Cd.argB;rw[Pk Ck,Pk Ck,Pk Ck,Pk Ck,Pk Ck,Pk Ck];rw[Pk Ck,Pk Ck,Pk Ck,Pk Ck,Pk Ck,Pk Ck]
def Vx{z:TI}(b:∀x∈z,0<=x)(i:Nat):0<=z.getD i 0:=by
 rw[Vm];by_cases h:i<z.length;·rw[Brl h];exact b _ (Brn h)
 rw[Bs3 Ck];simp
def Bhx{z:TI}{c:Int}{e:TI}{B:Int}{b:TI}(j:∀x∈b,0<=x)(f:List Nat)(g:∀p∈f,Cd.noRead b p=false):Ju (Lp z c e B (Cd.insts b)) (f.map (Cd.insAt b))=Cd.first (Cd.badArg z c e B b) f:=by
 induction f with
 | nil=>rfl
 | cons p r ih =>
  rw[Bsw,Ju,Cd.first,ih (fun q l=>g q (Bsh _ l))]
  have h:=g p (Bsd ..);unfold Cd.noRead at h;simp only[Bty,Bti]at h;have m:Lp z c e B (Cd.insts b) (Cd.insAt b p)=Cd.badArg z c e B b p:=by
   unfold Lp Cd.badArg Cd.argAt Cd.insAt;simp only;have s:=Cd.wd_bd (b.getD p 0);by_cases i:Cd.wd (b.getD p 0)=2;·rw[Th i,Cd.argP_eq z c e B b _ _ (fun _=>Vx j _)];unfold Cd.nAt;rw[Th Ck]
   rw[Pk i,Cd.argP_eq z c e B b _ _ (fun _=>Ck),Bnq Ck 0 (Cd.nAt b p)]
  rw[m];rfl
def Bhw{α:Type}{f g:α->Bool}(h:∀x,f x=g x)(l:List α):∀k,Cd.firstIx f k l=Cd.firstIx g k l:=by
 induction l with
 | nil=>intro k;rfl
 | cons x r ih=>intro k;rw[Cd.firstIx,Cd.firstIx,h x,ih]
def Bpd{z:TI}(i:Tr.Ok z)(j:1<z.length)(c:Int)(e:TI)(m:Rd.Mth)(l:∀x∈m.code,0<=x):Mt z c e m=Mu z c e m:=by
 unfold Mt Mu Cd.badCode;by_cases b:0<=Cd.unread m.code;·rw[Th b,Th b,Th b]
 rw[Pk b,Pk b];have p:Ju (Lp z c e m.locals (Cd.insts m.code)) (Cd.insts m.code)=Cd.first (Cd.badArg z c e m.locals m.code) (Cd.places m.code) :=
  Bhx l (Cd.places m.code) (Wy (by unfold Cd.unread at b;omega))
 have s:Cd.firstIx (N3 z (Cd.insts m.code) (m.code.length:Int)) 0 m.handlers=Cd.firstIx (Cd.hndBad z m.code) 0 m.handlers :=
  Bhw (fun x=>by unfold N3;rw[Cd.hndMay_eq i j];simp) m.handlers 0
 rw[p,s,Cd.inMaps_eq];by_cases f:0<=Cd.first (Cd.badArg z c e m.locals m.code) (Cd.places m.code)
 ·rw[Th f,Th f]
 rw[Pk f,Pk f];by_cases g:0<=Cd.firstIx (Cd.hndBad z m.code) 0 m.handlers;·rw[Th g,Th g]
 rw[Pk g,Pk g];rw[show ((0:Int)-1) = -1 from rfl];generalize Cd.mapsBad z m.code 0 (-1) m.maps=q;unfold Cd.faultOf;by_cases h:q<0;·rw[Th h,Pk Ck]
 rw[Pk h,Th Ck]
def Bk7{z:TI}(f:Tr.Ok z)(g:1<z.length)(b:Int)(c:TI)(l:List Rd.Mth)(e:∀m∈l,∀x∈m.code,0<=x):∀k,Gn z b c k l=Je z b c k l:=by
 induction l with
 | nil=>intro k;rfl
 | cons m r ih =>
  intro k;rw[Gn,Je,Bpd f g b c m (e m (Bsd ..)),ih (fun x h=>e x (Bsh _ h))]
def Bh8{z:TI}(b:Tr.Ok z){a:Int}(c:0<=a)(e:a<(z.length:Int)):Tr.below z a a=false:=by
 cases h:Tr.below z a a with
 | false=>rfl
 | true=>have:=Tr.below_lt b c e h;omega
def Bk8{z:TI}(c:Tr.Ok z){a B:Int}(e:0<=B)(f:a<(z.length:Int))(g:a<=B):Tr.below z a B=false:=by
 cases h:Tr.below z a B with
 | false=>rfl
 | true=>have:=Tr.below_lt c e f h;omega
def Bnj{z:TI}(f:Tr.Ok z)(A:z.length<=200)(m o:Rd.Mth)(l:0<=m.cl)(h:m.cl<(z.length:Int))(q:0<=o.cl)(k i:Nat):Mi z m.cl m.name m.result.1 m.result.2 m.params k i o=((decide (i<k)&&Kt m o)||Hu z m o):=by
 unfold Mi Kt Hu;by_cases c:o.name≠m.name
 ·rw[Th c];have:(o.name==m.name)=false:=by simpa using c
  rw[this];simp
 rw[Pk c];have s:(o.name==m.name)=true:=by simpa using c
 rw[s];by_cases j:o.cl=255;·rw[Th j,j,Bk8 f Ck h Ck];have:((255:Int)==m.cl)=false:=Fr;rw[this];simp
 rw[Pk j];by_cases b:o.cl=m.cl;·rw[Th b,b,Bh8 f l h];simp
 rw[Pk b];have t:(o.cl==m.cl)=false:=by simpa using b
 have v:Tr.rbel z m.cl o.cl=Tr.below z m.cl o.cl:=by
  have e:=Tr.rbel_iff f l h q;refine Bool.eq_iff_iff.2 ⟨fun g=>?_,fun g=>e.2 (.inr g)⟩;rcases e.1 g with g|g
  ·exact absurd g b
  exact g
 rw[t,v];unfold Le;by_cases p:o.result=m.result;·simp[p]
 simp[p]
def Bop{z:TI}(e:Tr.Ok z)(f:z.length<=200)(m:Rd.Mth)(g:0<=m.cl)(h:m.cl<(z.length:Int))(k:Nat)(l:List Rd.Mth)(b:∀o∈l,0<=o.cl):∀i,Im z m.cl m.name m.result.1 m.result.2 m.params k i l=(!(l.take (k-i)).any (Kt m) && !l.any (Hu z m)):=by
 induction l with
 | nil=>intro i;simp[Im]
 | cons o r ih =>
  intro i;rw[Im,Bnj e f m o g h (b o (Bsd ..)),ih (fun x j=>b x (Bsh _ j))];by_cases c:i<k
  ·rw[show k-i=(k-(i+1))+1 by omega,Buy,Buj,Buj];have:decide (i<k)=true:=by simpa using c
   rw[this];cases Kt m o<;>cases Hu z m o<;>simp
  rw[show k-i=0 by omega,show k-(i+1)=0 by omega,Buj];have:decide (i<k)=false:=by simpa using c
  rw[this];cases Hu z m o<;>simp
def Bo6{z:TI}(l:Tr.Ok z)(p:z.length<=200)(e:List Rd.Mth)(q:∀o∈e,0<=o.cl)(k:Nat)(m:Rd.Mth)(C:0<=m.cl):Sl z e k m = !Hv z e k m:=by
 unfold Sl Hv On N2 No Ox Ku Vf Lv;cases D:Tr.allPlainB z m.params with
 | false=>simp
 | true =>
  have s:(if m.result.1=0/\m.result.2=0 then true else Tr.plainB z m.result.1 m.result.2) = !(!Tr.plainB z m.result.1 m.result.2 && !decide ((m.result.1,m.result.2)=((0:Int),(0:Int)))):=by
   by_cases h:m.result.1=0/\m.result.2=0;·rw[Th h];simp[h]
   rw[Pk h];have:decide ((m.result.1,m.result.2)=((0:Int),(0:Int)))=false:=by simpa using h
   rw[this];simp
  rw[s];generalize (!Tr.plainB z m.result.1 m.result.2 && !decide ((m.result.1,m.result.2)=((0:Int),(0:Int))))=R;cases R with
  | true=>simp
  | false =>
   by_cases c:m.cl=255
   ·simp only[Th c];by_cases b:m.name=0
    ·by_cases f:(m.params.length:Int)<=m.locals;·have g:¬m.locals<(m.params.length:Int):=Ck;simp[c,b,f,g]
     have g:m.locals<(m.params.length:Int):=Ck;simp[c,b,f,g]
    simp[b]
   simp only[Pk c];by_cases b:m.cl<7;·simp[b]
   cases f:Tr.hasB z m.cl with
   | false=>simp[b]
   | true =>
    have i:0<=m.cl/\m.cl<(z.length:Int):=by simpa[Tr.hasB] using f
    by_cases j:(m.params.length:Int)<m.locals;·have t:¬m.locals<(m.params.length:Int):=Ck;have v:¬m.locals=(m.params.length:Int):=Ck;rw[Bop l p m i.1 i.2 k e q 0];simp only[Nat.sub_zero];cases (e.take k).any (Kt m)<;>cases e.any (Hu z m)<;>simp[c,b,j,t,v]
    by_cases A:m.locals<(m.params.length:Int);·simp[c,b,j,A]
    have B:m.locals=(m.params.length:Int):=Ck;simp[c,b,B]
def Bm9{z:TI}(e:Tr.Ok z)(f:z.length<=200)(b:List Rd.Mth)(g:∀o∈b,0<=o.cl)(l:List Rd.Mth)(c:∀o∈l,0<=o.cl):∀k,Iu z b k l=Gt z b k l:=by
 induction l with
 | nil=>intro k;rfl
 | cons m r ih =>
  intro k;rw[Iu,Gt,Bo6 e f b g k m (c m (Bsd ..)),ih (fun x h=>c x (Bsh _ h))];cases Hv z b k m<;>simp
def Bfx{z:TI}(e:Tr.Ok z)(g:z.length<=200)(h:1<z.length)(c:Int)(b:List Rd.Mth)(f:∀o∈b,0<=o.cl)(i:∀m∈b,∀x∈m.code,0<=x):Vb z c b=Rg z c b:=by
 unfold Vb Rg;rw[Bm9 e g b f b f,Bk7 e h c _ b i]
structure Rz(m:Rd.Mth):Prop where
 ps:m.params.length<=8
 code:m.code.length<=120
 code0:∀x∈m.code,0<=x
 hs:m.handlers.length<=4
 mp:m.maps.length<=64
 fr:∀p∈m.maps,p.locals.length<=8/\p.stack.length<=8/\0<=p.place/\p.place<=255
 cl:0<=m.cl
def Bra(s:TB)(L H:Int)(c:L<=8)(b:0<=H)(e:H<=8)(t:Rd.St):(Rd.mp s L H t).1.locals.length<=8/\(Rd.mp s L H t).1.stack.length<=8/\0<=(Rd.mp s L H t).1.place/\(Rd.mp s L H t).1.place<=255:=by
 simp only[Rd.mp,Rd.tys,Rd.rep_len];have:=Rd.cn_bd s 0 H (Rd.rep (Rd.ty s) L.toNat (Rd.nx s t).2).2 b;have:=Rd.nx_bd s t;omega
def Bol(s:TB)(t:Rd.St):Rz (Rd.mth s t).1:=by
 simp only[Rd.mth];generalize (Rd.nx s (Rd.nx s t).2).2=b;have i:=Rd.cn_bd s 0 4 b Ck;generalize Rd.cn s 0 4 b=p at *;generalize (Rd.tys s p.1.toNat p.2).2=f;generalize (Rd.ty s f).2=c;have g:=Rd.cn_bd s 0 8 c Ck;generalize Rd.cn s 0 8 c=l at *;have e:=Rd.cn_bd s 0 8 l.2 Ck;generalize Rd.cn s 0 8 l.2=h at *;refine⟨?_,?_,?_,?_,?_,?_,?_⟩
 ·simp only[Rd.tys,Rd.rep_len];omega
 ·simp only[Rd.codes,Rd.rep_len];have:=Rd.cn_bd s 1 120 h.2 Ck;omega
 ·simp only[Rd.codes];exact Ot (fun x:Int=>0<=x) _ (fun t=>Bdf s t) _ _
 ·simp only[Rd.hnds,Rd.rep_len];have:=Rd.cn_bd s 0 4 (Rd.codes s h.2).2 Ck;omega
 ·simp only[Rd.mps,Rd.rep_len];have:=Rd.cn_bd s 0 64 (Rd.hnds s (Rd.codes s h.2).2).2 Ck;omega
 ·simp only[Rd.mps];exact Ot (fun p:Rd.Mp=>p.locals.length<=8/\p.stack.length<=8/\0<=p.place/\p.place<=255) _ (fun t=>Bra s l.1 h.1 g.2 e.1 e.2 t) _ _
 exact Bdf s t
def Yo(s:TB):(Rd.read s).1.methods.length<=6/\∀m∈(Rd.read s).1.methods,Rz m:=by
 unfold Rd.read
 split
 ·simp
 split
 ·simp
 simp only[Rd.fil];refine⟨?_,Ot Rz _ (fun t=>Bol s t) _ _⟩;rw[Rd.rep_len];have:=Rd.cn_bd s 1 6 (Rd.rep (Rd.cls s) (Rd.cn s 0 6 (Rd.ex s 77 (Rd.ex s 83 ⟨0,false⟩))).1.toNat (Rd.cn s 0 6 (Rd.ex s 77 (Rd.ex s 83 ⟨0,false⟩))).2).2 Ck;omega
def Bki(l:TI)(b:List Rd.Cls):∀k:Nat,((Tr.inCl l k b).1=0\/(Tr.inCl l k b).1=3)/\0<=(Tr.inCl l k b).2:=by
 induction b with
 | nil=>intro k;exact⟨.inl rfl,by show (0:Int)<=0;omega⟩
 | cons c r ih =>
  intro k;unfold Tr.inCl
  split
  ·exact⟨.inr rfl,by show (0:Int)<=7+(k:Int);omega⟩
  split
  ·exact⟨.inr rfl,by show (0:Int)<=7+(k:Int);omega⟩
  exact ih _
def Rn(s:TB):Gx s=Rf.formed s:=by
 obtain⟨b,z⟩:=Yp s;have f:=Bh1 s;obtain⟨A,j⟩:=Yo s;obtain⟨B,_⟩:=Aw s;unfold Gx Rf.formed Rf.nf;unfold Rf.classed at f ⊢;by_cases g:15000<s.length;·rw[Th g]at b;rw[b];simp[g]
 rw[Pk g]at b;simp only[Pk g]at f ⊢;by_cases i:(Rf.fil s).2.2≠(s.length:Int);·rw[Th i]at b;rw[b];simp[i]
 rw[Pk i]at b;simp only[Pk i]at f ⊢;rw[Pk (by rw[b];simp)];obtain⟨p,q⟩:=z b;unfold Lo;rw[p]at B;rw[q]at A j;rw[p,q];have t:=Bki (Tr.tree (Rf.fil s).1) (Rf.fil s).1 0;have v:=Cd.fields_eq (Tr.tree (Rf.fil s).1) (Rf.fil s).1 (Rf.fil s).1.length (Bru _);rw[Buv]at v;rw[v];generalize J:Tr.inCl (Tr.tree (Rf.fil s).1) 0 (Rf.fil s).1=I at *;by_cases c:I.1=0
 ·have l:¬0<=Tr.badOf I:=by unfold Tr.badOf;rw[Th c];omega
  simp only[Pk l]at f ⊢;rw[Pk (fun h=>h c),Pk Hd];have C:=(f trivial).1;have K:=Ie (Rf.fil s).1;exact Bfx C Ck Ck _ _ (fun o D=>(j o D).cl) (fun m F=>(j m F).code0)
 have l:0<=Tr.badOf I:=by unfold Tr.badOf;rw[Pk c];exact t.2
 have e:Tr.badOf I=I.2:=by unfold Tr.badOf;rw[Pk c]
 have G:I.1=3:=t.1.resolve_left c;rw[Th c,Th l,Th Hd,e,G]
structure PM where
 cl:Int
 nm:Int
 pa:Option Addr
 pl:Nat
 pc:Nat
 r1:Int
 r2:Int
 lo:Int
 st:Int
 ca:Option Addr
 cn:Nat
 cc:Nat
 ha:Option Addr
 hl:Nat
 hc:Nat
 ma:Option Addr
 ml:Nat
 mc:Nat
def PM.val(m:PM):Value:=.agg #[.int .i64 m.cl,.int .i64 m.nm,.slice m.pa m.pl m.pc,.int .i64 m.r1,.int .i64 m.r2,.int .i64 m.lo,.int .i64 m.st,.slice m.ca m.cn m.cc,.slice m.ha m.hl m.hc,.slice m.ma m.ml m.mc]
def PM.list(m:PM):List Value:=[.int .i64 m.cl,.int .i64 m.nm,.slice m.pa m.pl m.pc,.int .i64 m.r1,.int .i64 m.r2,.int .i64 m.lo,.int .i64 m.st,.slice m.ca m.cn m.cc,.slice m.ha m.hl m.hc,.slice m.ma m.ml m.mc]
structure PM.is(m:PM)(x:Rd.Mth)(w:World)(bb:Nat):Prop where
 cl:m.cl=x.cl
 nm:m.nm=x.name
 r1:m.r1=x.result.1
 r2:m.r2=x.result.2
 lo:m.lo=x.locals
 st:m.st=x.stack
 pl:m.pl=x.params.length
 ps:Cq w bb (.slice m.pa m.pl m.pc) x.params
 cn:m.cn=x.code.length
 code:De w bb (.slice m.ca m.cn m.cc) x.code
 hl:m.hl=x.handlers.length
 hs:K8 w bb (.slice m.ha m.hl m.hc) x.handlers
 ml:m.ml=x.maps.length
 mp:Bn6 w bb (.slice m.ma m.ml m.mc) x.maps
def PM.is.kp{m:PM}{x:Rd.Mth}{w s:TW}{u:Nat}(h:m.is x w u){e:Option TypeId}(b:Kp e u w s)(c:some 31≠e)(f:some 3≠e)(g:some 267≠e)(i:some 266≠e):m.is x s u:=by
 obtain⟨j,p,q,t,v,z,A,B,C,D,F,G,I,l,J,K⟩:=h;exact⟨j,p,q,t,v,z,A,B.kp b c,C,D.kp b f,F,G.kp b g,I,l,J,K.kp b i c⟩
def PM.is.below{m:PM}{x:Rd.Mth}{w s:TW}{u:Nat}(h:m.is x w u)(b:Bl w s):m.is x s u:=h.kp (Kp.of_below (e:=none) b) Fm Fm Fm Fm
def Bqg(l:List (Rd.Mth×Ex))(k:Nat)(b:k<l.length)(j:Nat)(c:j<10):(Lj l)[k*10+j]?=(Mb l[k].1 l[k].2)[j]?/\k*10+j<(Lj l).length:=by
 refine⟨Nk (fun x:Rd.Mth×Ex=>Mb x.1 x.2) 10 (fun _=>rfl) l k b j c,?_⟩;unfold Lj;rw[Kx (fun x:Rd.Mth×Ex=>Mb x.1 x.2) 10 (fun _=>rfl) l];omega
theorem Eb.mth{w:World}{u:Nat}{a:Option Addr}{n t:Nat}{T:List (Rd.Mth×Ex)}(h:Eb w u (.slice a n t) T){k:Nat}(A:k<T.length):∃(m:PM) (g:Nat),a=some ⟨g,0,none⟩/\g<w.heap.size/\(∀j v,m.list[j]?=some v->w.cell? ⟨g,k*10+j,none⟩=some v)/\m.is T[k].1 w u:=by
 obtain⟨B,I⟩:=h;obtain⟨xa,xc,C⟩:=Bh B;simp only[Value.slice.injEq]at C;obtain⟨rfl,rfl,rfl⟩:=C;obtain⟨g,J,K,_,L⟩:=Cf B Ck;obtain⟨f,i,p,q,D,s⟩:=I _ (Brn A);have F:=fun j z=>Bqg T k A j z;generalize T[k]=x at *;obtain⟨x,e⟩:=x;obtain⟨up,uc,uh,um⟩:=e;simp only at f i p s F;obtain⟨N,O,rfl⟩:=Bh f;obtain⟨Q,V,rfl⟩:=Bh i;obtain⟨Y,Z,rfl⟩:=Bh p;obtain⟨ma,mc,rfl⟩:=Bh s.1;have a0:q.length=x.maps.length:=by rw[<- D];simp
 refine⟨⟨x.cl,x.name,N,x.params.length,O,x.result.1,x.result.2,x.locals,x.stack,Q,x.code.length,V,Y,x.handlers.length,Z,ma,q.length,mc⟩,g,J,K,?_,⟨rfl,rfl,rfl,rfl,rfl,rfl,rfl,f,rfl,i,rfl,p,a0,q,D,s⟩⟩;intro j v G;have z:j<10:=by
  have:=(List.getElem?_eq_some_iff.1 G).1;simpa[PM.list] using this
 obtain⟨e1,e2⟩:=F j z;rw[L _ e2,e1,<- G];rfl
def T5{m:PM}{w:TW}{u k:Nat}(h:∀j v,m.list[j]?=some v->w.C u (k*10+j) v):w.C u (k*10) (.i m.cl)/\w.C u (k*10+1) (.i m.nm)/\w.C u (k*10+2) (.s m.pa m.pl m.pc)/\w.C u (k*10+3) (.i m.r1)/\w.C u (k*10+4) (.i m.r2)/\w.C u (k*10+5) (.i m.lo)/\w.C u (k*10+6) (.i m.st)/\w.C u (k*10+7) (.s m.ca m.cn m.cc)/\w.C u (k*10+8) (.s m.ha m.hl m.hc)/\w.C u (k*10+9) (.s m.ma m.ml m.mc) :=
 ⟨h 0 _ rfl,h 1 _ rfl,h 2 _ rfl,h 3 _ rfl,h 4 _ rfl,h 5 _ rfl,h 6 _ rfl,h 7 _ rfl,h 8 _ rfl,h 9 _ rfl⟩
variable {ya:Option Addr}{yn yc:Nat}
def Bb1(T:TI)(a:TA)(f:Nat)(k n:Int)(w:TW):Calls prog 211 #[.agg #[.s a T.length f,.s ya yn yc],.agg #[.i k,.i n]] w fun e l=>e=.r (.bool (No T k n))/\Bl w l:=by
 have g:=fun w=>Rq (ya:=ya) (yn:=yn) (yc:=yc) T a f k n w;unfold No;generalize Tr.plainB T k n=P at *;have j:=Bc g;clear g;by_cases h:k=0/\n=0;·rw[Th h];obtain⟨rfl,rfl⟩:=h;go_in;go_wp2;go_ret;exact⟨rfl,Bu _ _ _⟩
 rw[Pk h];by_cases b:k=0
 ·subst b;have m:(n==0)=false:=by simpa using h
  clear h;go_in;go_wp2_with fail;refine Qm (Ba j _) ?_;intro p c;go_wp2;go_ret;exact⟨rfl,(Bu _ _ _).trans (c.mono Fr)⟩
 have m:(k==0)=false:=by simpa using b
 clear h b;go_in;go_wp2_with fail;refine Qm (Ba j _) ?_;intro p c;go_wp2;go_ret;exact⟨rfl,(Bu _ _ _).trans (c.mono Fr)⟩
def Bfd(T:TI)(a:TA)(Z bb:Nat)(m:PM)(x:Rd.Mth)(w:TW)(V:m.is x w bb)(a6:x.params.length<=1000):Calls prog 159 #[.agg #[.s a T.length Z,.s ya yn yc],m.val] w fun e w'=>e=.r (.bool (N2 T x))/\Bl w w':=by
 have hA:=fun w' (h:Bl w w')=>Tl (ya:=ya) (yn:=yn) (yc:=yc) T a Z m.pa m.pl m.pc bb x.params w' a6 (V.below h).ps;have hR:=fun w=>Bb1 (ya:=ya) (yn:=yn) (yc:=yc) T a Z m.r1 m.r2 w;have hH:=fun w=>A8 (ya:=ya) (yn:=yn) (yc:=yc) T a Z m.cl w;generalize b:N2 T x=R;unfold N2 at b;rw[<- V.cl,<- V.nm,<- V.r1,<- V.r2,<- V.lo,<- V.pl]at b;generalize Tr.allPlainB T x.params=A at *;clear V a6;obtain⟨O,nm,pa,pl,pc,r1,r2,lo,st,ca,cn,cc,ha,hl,hc,ma,ml,mc⟩:=m;simp only[PM.val]at hA hR hH b ⊢;generalize No T r1 r2=B at *;generalize Tr.hasB T O=K at *;have HA:=Bc hA;have HR:=Bc hR;have HH:=Bc hH;clear hA hR hH;have Y:=Bu w (O2 a T.length Z ya yn yc) (O18 O nm pa pl pc r1 r2 lo st ca cn cc ha hl hc ma ml mc);have a1:=Cb w (O2 a T.length Z ya yn yc) (O18 O nm pa pl pc r1 r2 lo st ca cn cc ha hl hc ma ml mc);have a2:=Bx w (O2 a T.length Z ya yn yc) (O18 O nm pa pl pc r1 r2 lo st ca cn cc ha hl hc ma ml mc);have a0:=Bc (Ba HA _ Y);clear HA;cases A with
 | false =>
  have G:Hid (R=false):=by unfold Hid;rw[<- b];simp
  clear b;go_in;go_wp2_with fail;refine Qm (Ba a0) ?_;intro w1 z;go_wp2;go_ret;exact⟨by rw[Ba G];rfl,QB Y z⟩
 | true =>
  cases B with
  | false =>
   have G:Hid (R=false):=by unfold Hid;rw[<- b];simp
   clear b;go_in;go_wp2_with fail;refine Qb (Ba a0) Y ?_;intro w1 z L;have I:=stay z a1;have F:=stay z a2;obtain⟨C,D⟩:=cl2 I;simp at C D;obtain⟨c,f,g,i,j,l,p,q,t,v⟩:=Nj F;simp at c f g i j l p q t v;go_wp2_with fail;refine Qm (Ba HR _) ?_;intro w2 J;go_wp2;go_ret;exact⟨by rw[Ba G];rfl,QB L J⟩
  | true =>
   have a3:Hid ((if O=255 then (if nm=0 then decide ((pl:Int)<=lo) else false) else if O<7 then false else if K=false then false else decide ((pl:Int)<lo))=R):=by unfold Hid;rw[<- b];simp
   clear b;by_cases h1:O=255
   ·subst h1;have b:=Ba a3;rw[Th rfl]at b;clear a3;by_cases h2:nm=0;·subst h2;rw[Th rfl]at b;have G:=Bc b;clear b;go_in;go_wp2_with fail;refine Qb (Ba a0) Y ?_;intro w1 z L;have I:=stay z a1;have F:=stay z a2;obtain⟨C,D⟩:=cl2 I;simp at C D;obtain⟨c,f,g,i,j,l,p,q,t,v⟩:=Nj F;simp at c f g i j l p q t v;go_wp2_with fail;refine Qb (Ba HR _) L ?_;intro w2 J Q;have N:=stay J F;clear c f g i j l p q t v;obtain⟨c,f,g,i,j,l,p,q,t,v⟩:=Nj N;simp at c f g i j l p q t v;go_wp2;go_ret;exact⟨by rw[<- Ba G];rfl,Q⟩
    rw[Pk h2]at b;have a9:(nm==0)=false:=by simpa using h2
    have G:=Bc b;clear b h2;go_in;go_wp2_with fail;refine Qb (Ba a0) Y ?_;intro w1 z L;have I:=stay z a1;have F:=stay z a2;obtain⟨C,D⟩:=cl2 I;simp at C D;obtain⟨c,f,g,i,j,l,p,q,t,v⟩:=Nj F;simp at c f g i j l p q t v;go_wp2_with fail;refine Qb (Ba HR _) L ?_;intro w2 J Q;have N:=stay J F;clear c f g i j l p q t v;obtain⟨c,f,g,i,j,l,p,q,t,v⟩:=Nj N;simp at c f g i j l p q t v;go_wp2;go_ret;exact⟨by rw[<- Ba G];rfl,Q⟩
   have b:=Ba a3;rw[Pk h1]at b;have b0:(O==255)=false:=by simpa using h1
   clear a3 h1;by_cases h2:O<7;·rw[Th h2]at b;have G:=Bc b;clear b;go_in;go_wp2_with fail;refine Qb (Ba a0) Y ?_;intro w1 z L;have I:=stay z a1;have F:=stay z a2;obtain⟨C,D⟩:=cl2 I;simp at C D;obtain⟨c,f,g,i,j,l,p,q,t,v⟩:=Nj F;simp at c f g i j l p q t v;go_wp2_with fail;refine Qb (Ba HR _) L ?_;intro w2 J Q;have N:=stay J F;clear c f g i j l p q t v;obtain⟨c,f,g,i,j,l,p,q,t,v⟩:=Nj N;simp at c f g i j l p q t v;go_wp2;go_ret;exact⟨by rw[<- Ba G];rfl,Q⟩
   rw[Pk h2]at b;cases K with
   | false =>
    rw[Th rfl]at b;have G:=Bc b;clear b;go_in;go_wp2_with fail;refine Qb (Ba a0) Y ?_;intro w1 z L;have I:=stay z a1;have F:=stay z a2;obtain⟨C,D⟩:=cl2 I;simp at C D;obtain⟨c,f,g,i,j,l,p,q,t,v⟩:=Nj F;simp at c f g i j l p q t v;go_wp2_with fail;refine Qb (Ba HR _) L ?_;intro w2 J Q;have N:=stay J F;have a4:=stay J I;clear c f g i j l p q t v C D;obtain⟨C,D⟩:=cl2 a4;simp at C D;obtain⟨c,f,g,i,j,l,p,q,t,v⟩:=Nj N;simp at c f g i j l p q t v;go_wp2_with fail;refine Qm (Ba HH _) ?_;intro w3 a5;go_wp2;go_ret;exact⟨by rw[<- Ba G];rfl,QB Q a5⟩
   | true =>
    rw[Pk Hd]at b;have G:=Bc b;clear b;go_in;go_wp2_with fail;refine Qb (Ba a0) Y ?_;intro w1 z L;have I:=stay z a1;have F:=stay z a2;obtain⟨C,D⟩:=cl2 I;simp at C D;obtain⟨c,f,g,i,j,l,p,q,t,v⟩:=Nj F;simp at c f g i j l p q t v;go_wp2_with fail;refine Qb (Ba HR _) L ?_;intro w2 J Q;have N:=stay J F;have a4:=stay J I;clear c f g i j l p q t v C D;obtain⟨C,D⟩:=cl2 a4;simp at C D;obtain⟨c,f,g,i,j,l,p,q,t,v⟩:=Nj N;simp at c f g i j l p q t v;go_wp2_with fail;refine Qb (Ba HH _) Q ?_;intro w3 a5 a7;have a8:=stay a5 N;clear c f g i j l p q t v C D;obtain⟨c,f,g,i,j,l,p,q,t,v⟩:=Nj a8;simp at c f g i j l p q t v;go_wp2;go_ret;exact⟨by rw[<- Ba G];rfl,a7⟩
def Bhp(b:List Rd.Mth)(ea:TA)(ec:Nat)(m:PM)(x:Rd.Mth)(w:TW)(I:m.cl=x.cl)(a2:m.nm=x.name)(c5:b.length<=1000) (HM:∀l,Bl w l->∀k (hk:k<b.length),∃(o:PM) (g:Nat),ea=some ⟨g,0,none⟩/\g<l.heap.size/\(∀j v,o.list[j]?=some v->l.C g (k*10+j) v)/\o.cl=b[k].cl/\o.nm=b[k].name):Calls prog 160 #[.s ea b.length ec,m.val] w fun e l=>e=.r (.bool (Ox b x))/\Bl w l:=by
 generalize c:Ox b x=R;unfold Ox at c;rw[<- I]at c;have J:∀o,Kt x o=((o.cl==m.cl)&&(o.name==m.nm)):=fun o=>by unfold Kt;rw[I,a2]
 obtain⟨f,p,K,L,N,O,Q,V,Y,Z,cn,cc,ha,hl,hc,ma,ml,mc⟩:=m;simp only[PM.val]at c J ⊢;have c2:=Bc HM;have c3:=Bc J;have a0:Bl w (w.alloc (O18 f p K L N O Q V Y Z cn cc ha hl hc ma ml mc)):=QN _;have a3:=Be w (O18 f p K L N O Q V Y Z cn cc ha hl hc ma ml mc);clear HM J I a2;by_cases t:f=255;·subst t;rw[Th rfl]at c;have q:=Bc c;clear c;go_in;go_wp2;go_ret;exact⟨by rw[<- Ba q];rfl,a0⟩
 rw[Pk t]at c;have c6:(f==255)=false:=by simpa using t
 have h:Hid ((b.drop 0).any (Kt x)=R):=c;clear c t;go_in;go_wp2
 go_loopw [12] (fun v wr=>∃k:Nat,k<=b.length/\v=.i (k:Int)/\Hid ((b.drop k).any (Kt x)=R)/\Bl w wr/\wr.heap[w.heap.size]?=some (O18 f p K L N O Q V Y Z cn cc ha hl hc ma ml mc))
  (fun v _=>b.length-(intOf v).toNat)
 case atStart=>exact⟨0,Ck,rfl,h,a0,a3⟩
 case round=>
  clear h a0 a3;obtain⟨k,hk,rfl,h,z,CM⟩:=hrel;have c4:=z.size;have lM:=Sp CM;obtain⟨m0,m1⟩:=cl2 CM;simp at m0 m1;by_cases a4:k<b.length
  ·obtain⟨o,g,hg,c7,A,e1,e2⟩:=Ba c2 _ z k a4;replace A:=T5 A;have hd:b.drop k=b[k]::b.drop (k+1):=Brj a4;have c:=Ba h;rw[hd,Buj,Ba c3,<- e1,<- e2]at c;obtain⟨B,D,a5,a6,a7,a8,a9,b0,b1,b2,b3,b4,b5,b6,b7,b8,b9,c0⟩:=o;simp only at A c;obtain⟨y0,y1,y2,y3,y4,y5,y6,y7,y8,y9⟩:=A;have kb:(k:Int)<(b.length:Int):=Ck;have a1:=z.alloc c4 (O18 B D a5 a6 a7 a8 a9 b0 b1 b2 b3 b4 b5 b6 b7 b8 b9 c0);have c1:=Bg CM (O18 B D a5 a6 a7 a8 a9 b0 b1 b2 b3 b4 b5 b6 b7 b8 b9 c0);clear hd e1 e2 h;subst hg;by_cases F:B=f
   ·subst F;by_cases G:D=p
    ·subst G;have q:Hid (R=true):=by unfold Hid;rw[<- c];simp
     clear c;go_wp2;go_ret;exact⟨by rw[Ba q];rfl,a1⟩
    have HG:Hid ((b.drop (k+1)).any (Kt x)=R):=by unfold Hid;rw[<- c];simp[G]
    have c8:(D==p)=false:=by simpa using G
    clear c G;go_wp2;go_roundw
    case rel=>exact⟨k+1,Ck,Mg,HG,a1,c1⟩
    case measure=>simp[intOf];omega
   have HG:Hid ((b.drop (k+1)).any (Kt x)=R):=by unfold Hid;rw[<- c];simp[F]
   have c9:(B==f)=false:=by simpa using F
   clear c F;go_wp2;go_roundw
   case rel=>exact⟨k+1,Ck,Mg,HG,a1,c1⟩
   case measure=>simp[intOf];omega
  have q:Hid (R=false):=by unfold Hid;rw[<- Ba h,Brq Ck];rfl
  have kb:¬(k:Int)<(b.length:Int):=Ck;clear h;go_wp2;go_ret;exact⟨by rw[Ba q];rfl,z⟩
def Bcr(o m:PM)(y x:Rd.Mth)(Q:Nat)(w:TW)(J:o.is y w Q)(K:m.is x w Q)(d4:y.params.length<=1000)(d5:x.params.length<=1000):Calls prog 213 #[o.val,m.val] w fun e f=>e=.r (.bool (Le y x))/\Bl w f:=by
 generalize b:Le y x=R;unfold Le at b;have hy:y.result=(o.r1,o.r2):=by rw[J.r1,J.r2]
 have hx:x.result=(m.r1,m.r2):=by rw[K.r1,K.r2]
 rw[hy,hx]at b;have a0:∀f,Bl w f->Cq f Q (.s o.pa o.pl o.pc) y.params:=fun f h=>(J.below h).ps;have a4:∀f,Bl w f->Cq f Q (.s m.pa m.pl m.pc) x.params:=fun f h=>(K.below h).ps;have eo:=J.pl;have em:=K.pl;clear hy hx J K;generalize y.params=A at *;generalize x.params=B at *;obtain⟨a5,a6,a7,d6,a8,j,l,a9,b0,b4,b5,b6,b7,b8,b9,c0,c1,c2⟩:=o;obtain⟨V,Y,Z,pl,pc,C,D,lo,st,ca,cn,cc,ha,hl,hc,ma,ml,mc⟩:=m;simp only at eo em;subst eo em;simp only[PM.val]at b a0 a4 ⊢;have HO:=Bc a0;have HM:=Bc a4;have L:=Bu w (O18 a5 a6 a7 A.length a8 j l a9 b0 b4 b5 b6 b7 b8 b9 c0 c1 c2) (O18 V Y Z B.length pc C D lo st ca cn cc ha hl hc ma ml mc);have c8:=Cb w (O18 a5 a6 a7 A.length a8 j l a9 b0 b4 b5 b6 b7 b8 b9 c0 c1 c2) (O18 V Y Z B.length pc C D lo st ca cn cc ha hl hc ma ml mc);have c5:=Bx w (O18 a5 a6 a7 A.length a8 j l a9 b0 b4 b5 b6 b7 b8 b9 c0 c1 c2) (O18 V Y Z B.length pc C D lo st ca cn cc ha hl hc ma ml mc);clear a0 a4;by_cases F:j=C/\l=D
 ·rw[Pk (by simp[F])]at b;obtain⟨rfl,rfl⟩:=F;by_cases h2:A.length=B.length
  ·have t:Hid (decide (A.drop 0=B.drop 0)=R):=b;have c9:((A.length:Int) != (B.length:Int))=false:=by simp[h2]
   have d7:A.length<=B.length:=Ck;have d8:B.length<=A.length:=Ck;clear b h2;go_in;go_wp2
   go_loopw [24] (fun v wr=>∃k:Nat,k<=A.length/\v=.i (k:Int)/\Hid (decide (A.drop k=B.drop k)=R)/\Bl w wr/\wr.heap[w.heap.size+1]?=some (O18 V Y Z B.length pc j l lo st ca cn cc ha hl hc ma ml mc))
    (fun v _=>A.length-(intOf v).toNat)
   case atStart=>exact⟨0,Ck,rfl,t,L,c5⟩
   case round=>
    clear t L c5 c8;obtain⟨k,hk,rfl,t,N,CM⟩:=hrel;have d0:=N.size;have lM:=Sp CM;have m2:=Bb CM 2;simp at m2;by_cases c6:k<A.length
    ·have c7:k<B.length:=Ck;obtain⟨ga,d1,d9,_,c3⟩:=Cf (Ba HO _ N) Ck;obtain⟨gb,d2,f0,_,c4⟩:=Cf (Ba HM _ N) Ck;obtain⟨a1,a2,a3⟩:=Fu A k c6;obtain⟨b1,b2,b3⟩:=Fu B k c7;have x0:=(c3 (k*2) Ck).trans a1;have x1:=(c3 (k*2+1) Ck).trans a2;have y0:=(c4 (k*2) Ck).trans b1;have y1:=(c4 (k*2+1) Ck).trans b2;have b:=Ba t;rw[Tj c6 c7]at b;have kb:(k:Int)<(A.length:Int):=Ck;have f1:(k:Int)<(B.length:Int):=Ck;have f2:decide ((B.length:Int)<=(k:Int))=false:=Fr;generalize A[k]=p at *;generalize B[k]=q at *;obtain⟨G,I⟩:=p;obtain⟨q1,q2⟩:=q;simp only at x0 x1 y0 y1;have c:=N.alloc d0 (O7 G I);have d3:=Bg CM (O7 G I);have f3:¬((B.length:Int)<=(k:Int)):=Ck;clear c3 c4 a1 a2 a3 b1 b2 b3 t;subst d1 d2;by_cases O:G=q1/\I=q2
     ·obtain⟨rfl,rfl⟩:=O;have HG:Hid (decide (A.drop (k+1)=B.drop (k+1))=R):=by unfold Hid;rw[<- b];simp
      clear b;go_wp2_with (go_quiet (fail))
      go_wp2;go_roundw
      case rel=>exact⟨k+1,Ck,Mg,HG,⟨c.os,c.tape,c.output,c.size,c.block⟩,d3⟩
      case measure=>simp[intOf];omega
     have g:Hid (R=false):=by
      unfold Hid;have:decide ((G,I)=(q1,q2))=false:=by simpa using O
      rw[<- b,this];rfl
     clear b;by_cases z:q1=G
     ·subst z;have h5:(q2==I)=false:=by
       have:¬q2=I:=fun h=>O ⟨rfl,h.symm⟩;simpa using this
      clear O;go_wp2_with (go_quiet (fail))
      go_wp2;go_ret;exact⟨by rw[Ba g];rfl,⟨c.os,c.tape,c.output,c.size,c.block⟩⟩
     have h5:(q1==G)=false:=by simpa using z
     clear O z;go_wp2_with (go_quiet (fail))
     go_wp2;go_ret;exact⟨by rw[Ba g];rfl,⟨c.os,c.tape,c.output,c.size,c.block⟩⟩
    have g:Hid (R=true):=by unfold Hid;rw[<- Ba t,Brq Ck,Brq Ck];rfl
    have kb:¬(k:Int)<(A.length:Int):=Ck;clear t;go_wp2;go_ret;exact⟨by rw[Ba g];rfl,N⟩
  have g:Hid (R=false):=by
   unfold Hid;rw[<- b];simp only[Bti];intro h;exact h2 (by rw[h])
  have c9:((A.length:Int) != (B.length:Int))=true:=Fr;clear b h2;go_in;go_wp2;go_ret;exact⟨by rw[Ba g];rfl,L⟩
 rw[Th (by simpa using F)]at b;have g:=Bc b;clear b;by_cases z:j=C
 ·subst z;have h5:(l==D)=false:=by
   have:¬l=D:=fun h=>F ⟨rfl,h⟩;simpa using this
  clear F;go_in;go_wp2;go_ret;exact⟨by rw[<- Ba g];rfl,L⟩
 have h5:(j==C)=false:=by simpa using z
 clear F z;go_in;go_wp2;go_ret;exact⟨by rw[<- Ba g];rfl,L⟩
variable {ya:Option Addr}{yn yc:Nat}
def Bad(c5 a1:TA)(c6 c7 a2:Nat)(b:List (Rd.Mth×Ex))(T:TI)(N a3 O:Nat)(m:PM)(x:Rd.Mth)(w:TW)(hm:m.is x w O)(hT:T.length<=1000)(f1:Dy w N T) (g9:b.length<=6)(f2:Eb w O (.s a1 b.length a2) b)(f8:x.params.length<=1000)(f3:∀p∈b,p.1.params.length<=1000):Calls prog 161 #[.agg #[.s c5 c6 c7,.s a1 b.length a2],.agg #[.s (.p N) T.length a3,.s ya yn yc],m.val] w fun e c=>e=.r (.bool (Ku T (b.map Prod.fst) x))/\Bl w c:=by
 generalize f:Ku T (b.map Prod.fst) x=R;unfold Ku at f;rw[<- hm.cl]at f;have c8:∀o,Hu T x o=((o.name==m.nm)&&(Tr.below T m.cl o.cl && !Le o x)):=fun o=>by unfold Hu;rw[hm.cl,hm.nm]
 have c9:=fun h c (hb:Bl w c)=>W2 (ya:=ya) (yn:=yn) (yc:=yc) T N a3 m.cl h c hT (f1.below hb);have d0:=fun (o:PM) (y:Rd.Mth) c (hb:Bl w c) (ho:o.is y c O) hy=>Bcr o m y x O c ho (hm.below hb) hy f8;have f4:∀c,Bl w c->Eb c O (.s a1 b.length a2) b:=fun c h=>f2.kp (Kp.of_below (e:=none) h) Fm Fm Fm Fm Fm;clear hm f2 f1;obtain⟨Q,nm,pa,pl,pc,r1,r2,lo,st,ca,cn,cc,ha,hl,hc,ma,ml,mc⟩:=m;simp only[PM.val]at f c8 c9 d0 ⊢;have f9:=Bc c8;have g0:=Bc c9;have g1:=Bc d0;have g2:=Bc f4;have g3:=Bc f3;have d1:=Em w (O1 c5 c6 c7 a1 b.length a2) (O2 (.p N) T.length a3 ya yn yc) (O18 Q nm pa pl pc r1 r2 lo st ca cn cc ha hl hc ma ml mc);have C0:=Nz w (O1 c5 c6 c7 a1 b.length a2) (O2 (.p N) T.length a3 ya yn yc) (O18 Q nm pa pl pc r1 r2 lo st ca cn cc ha hl hc ma ml mc);clear c8 c9 d0 f4 f3;by_cases I:Q=255;·subst I;rw[Th rfl]at f;have HE:=Bc f;clear f;go_in;go_wp2;go_ret;exact⟨by rw[<- Ba HE];rfl,d1⟩
 rw[Pk I]at f;have h0:(Q==255)=false:=by simpa using I
 have J:Hid (((b.map Prod.fst).drop 0).any (Hu T x)=R):=f;clear f I;go_in;go_wp2
 go_loopw [15] (fun v wr=>∃k:Nat,k<=b.length/\v=.i (k:Int)/\Hid (((b.map Prod.fst).drop k).any (Hu T x)=R)/\Bl w wr/\wr.heap[w.heap.size+1]?=some (O2 (.p N) T.length a3 ya yn yc)/\wr.heap[w.heap.size+1+1]?=some (O18 Q nm pa pl pc r1 r2 lo st ca cn cc ha hl hc ma ml mc))
  (fun v _=>b.length-(intOf v).toNat)
 case atStart=>exact⟨0,Ck,rfl,J,d1,C0.2.1,C0.2.2⟩
 case round=>
  clear J d1 C0;obtain⟨k,hk,rfl,J,hB,V,Y⟩:=hrel;have g4:=hB.size;have lT:=Sp V;have lM:=Sp Y;obtain⟨l,q,t,z,A,B,C,D,F,G⟩:=Nj Y;simp at l q t z A B C D F G;obtain⟨t0,t1⟩:=cl2 V;simp at t0 t1;by_cases d2:k<b.length
  ·obtain⟨o,g,hg,h4,a5,a6⟩:=(Ba g2 _ hB).mth d2;replace a5:=T5 a5;have g5:=Ba g3 _ (Brn d2);have hd:(b.map Prod.fst).drop k=b[k].1::(b.map Prod.fst).drop (k+1):=by
    rw[Brj (by simpa using d2)];simp
   have f:=Ba J;rw[hd,Buj,Ba f9,<- a6.cl,<- a6.nm]at f;generalize b[k].1=y at *;have d3:Bl wr (wr.alloc (O18 o.cl o.nm o.pa o.pl o.pc o.r1 o.r2 o.lo o.st o.ca o.cn o.cc o.ha o.hl o.hc o.ma o.ml o.mc)):=QN _;have f5:∀c,Bl wr c->o.is y c O:=fun c h=>a6.below h;have d4:=fun c (I:Bl w c) (h2:Bl wr c)=>Ba g1 o y c I (f5 c h2) g5;have d5:=fun c (I:Bl w c)=>Ba g0 o.cl c I;clear a6 f5;obtain⟨a4,Z,a7,a8,a9,b0,b1,b2,b3,b4,b5,b6,b7,b8,b9,c0,c1,c2⟩:=o;simp only at a5 f d4 d5 d3;obtain⟨y0,y1,y2,y3,y4,y5,y6,y7,y8,y9⟩:=a5;generalize Le y x=SC at *;generalize Tr.below T Q a4=BL at *;have f6:=Bc d4;have d6:=Bc d5;have kb:(k:Int)<(b.length:Int):=Ck;have K:=hB.alloc g4 (O18 a4 Z a7 a8 a9 b0 b1 b2 b3 b4 b5 b6 b7 b8 b9 c0 c1 c2);have c3:=Bg Y (O18 a4 Z a7 a8 a9 b0 b1 b2 b3 b4 b5 b6 b7 b8 b9 c0 c1 c2);have d7:=Bg V (O18 a4 Z a7 a8 a9 b0 b1 b2 b3 b4 b5 b6 b7 b8 b9 c0 c1 c2);have f7:=Be wr (O18 a4 Z a7 a8 a9 b0 b1 b2 b3 b4 b5 b6 b7 b8 b9 c0 c1 c2);clear hd J d4 d5;subst hg;by_cases h3:Z=nm
   ·subst h3;cases BL with
    | false =>
     have HG:Hid (((b.map Prod.fst).drop (k+1)).any (Hu T x)=R):=by unfold Hid;rw[<- f];simp
     clear f;go_wp2_with fail;refine Qb (Ba d6 _ K) K ?_;intro w2 j L;have a0:=stay j c3;have d8:=stay j d7;clear l q t z A B C D F G t0 t1 y0 y1 y2 y3 y4 y5 y6 y7 y8 y9 Y V;go_wp2;go_roundw
     case rel=>exact⟨k+1,Ck,Mg,HG,L,d8,a0⟩
     case measure=>simp[intOf];omega
    | true =>
     cases SC with
     | false =>
      have HE:Hid (R=true):=by unfold Hid;rw[<- f];simp
      clear f;go_wp2_with fail;refine Qb (Ba d6 _ K) K ?_;intro w2 j L;have d9:=QB d3 j;have a0:=stay j c3;have f0:=stay j f7;clear l q t z A B C D F G t0 t1 y0 y1 y2 y3 y4 y5 y6 y7 y8 y9 Y V;obtain⟨l,q,t,z,A,B,C,D,F,G⟩:=Nj a0;simp at l q t z A B C D F G;obtain⟨o0,o1,o2,o3,o4,o5,o6,o7,o8,o9⟩:=Nj f0;simp at o0 o1 o2 o3 o4 o5 o6 o7 o8 o9;go_wp2_with fail;refine Qm (Ba f6 _ L d9) ?_;intro w3 c4;go_wp2;go_ret;exact⟨by rw[Ba HE];rfl,QB L c4⟩
     | true =>
      have HG:Hid (((b.map Prod.fst).drop (k+1)).any (Hu T x)=R):=by unfold Hid;rw[<- f];simp
      clear f;go_wp2_with fail;refine Qb (Ba d6 _ K) K ?_;intro w2 j L;have d9:=QB d3 j;have a0:=stay j c3;have d8:=stay j d7;have f0:=stay j f7;clear l q t z A B C D F G t0 t1 y0 y1 y2 y3 y4 y5 y6 y7 y8 y9 Y V;obtain⟨l,q,t,z,A,B,C,D,F,G⟩:=Nj a0;simp at l q t z A B C D F G;obtain⟨o0,o1,o2,o3,o4,o5,o6,o7,o8,o9⟩:=Nj f0;simp at o0 o1 o2 o3 o4 o5 o6 o7 o8 o9;go_wp2_with fail;refine Qb (Ba f6 _ L d9) L ?_;intro w3 c4 g6;have g7:=stay c4 a0;have g8:=stay c4 d8;clear l q t z A B C D F G o0 o1 o2 o3 o4 o5 o6 o7 o8 o9;go_wp2;go_roundw
      case rel=>exact⟨k+1,Ck,Mg,HG,g6,g8,g7⟩
      case measure=>simp[intOf];omega
   have HG:Hid (((b.map Prod.fst).drop (k+1)).any (Hu T x)=R):=by unfold Hid;rw[<- f];simp[h3]
   have h5:(Z==nm)=false:=by simpa using h3
   clear f h3;go_wp2;go_roundw
   case rel=>exact⟨k+1,Ck,Mg,HG,K,d7,c3⟩
   case measure=>simp[intOf];omega
  have HE:Hid (R=false):=by unfold Hid;rw[<- Ba J,Brq Fr];rfl
  have kb:¬(k:Int)<(b.length:Int):=Ck;clear J;go_wp2;go_ret;exact⟨by rw[Ba HE];rfl,hB⟩
def Bkg(c:TI):∀x∈Cd.insts c,0<=x.place:=by
 intro x b;unfold Cd.insts at b;simp only[List.mem_map]at b;obtain⟨p,_,rfl⟩:=b;exact Int.natCast_nonneg p
def Bgq(c:TI)(k p:Nat):(Cd.starts c k p).length<=k:=by
 induction k generalizing p with
 | zero=>simp[Cd.starts]
 | succ j ih =>
  unfold Cd.starts
  split
  ·simp;exact ih _
  simp
def Bbd(c:TI):(Cd.insts c).length<=c.length:=by
 unfold Cd.insts Cd.places;rw[Br1];exact Bgq _ _ _
def Bhr(Z b0:TA)(b1 b2 tg tc:Nat)(ya:TA)(yn yc:Nat)(cl nm:Int)(pa:TA)(pl pc:Nat)(r1 r2 st:Int)(J K ma:TA)(N l mc:Nat)(T:TI) (bm:Nat)(q:List (Rd.Cls×Value))(t:List (Rd.Mth×Ex))(m:Rd.Mth)(B:List (Rd.Mp×Value×Value))(w:TW) (hT:T.length<=1000)(c8:Dy w tg T)(i1:t.length<=6)(h1:q.length<=6)(d6:∀p∈q,p.1.fields.length<=1000) (d7:Fh w bm (.s Z q.length b1) q)(d8:Eb w bm (.s b0 t.length b2) t)(c0:Rz m)(d3:B.map Prod.fst=m.maps) (d9:De w bm (.s J m.code.length N) m.code)(f0:K8 w bm (.s K m.handlers.length l) m.handlers)(f1:Mf w bm (.s ma B.length mc) B):Calls prog 162 #[PBd.val ⟨Z,q.length,b1,b0,t.length,b2,tg,tc,ya,yn,yc,cl,nm,pa,pl,pc,r1,r2,m.locals,st,J,m.code.length,N,K,m.handlers.length,l,ma,B.length,mc,none,0,T,[]⟩] w fun e f => e=.r (.agg #[.i (Mt T (Cd.fieldSum (q.map Prod.fst):Int) (t.map fun p=>p.1.cl) m).1,.i 0,.i (Mt T (Cd.fieldSum (q.map Prod.fst):Int) (t.map fun p=>p.1.cl) m).2])/\Bl w f:=by
 have i2:B.length<=64:=by have:=congrArg List.length d3;simp only[Br1]at this;rw[this];exact c0.mp
 have f2:∀p∈B,p.1.locals.length<=1000/\p.1.stack.length<=1000/\-1000<=p.1.place/\p.1.place<=1000:=by
  intro p hp;have:=c0.fr p.1 (by rw[<- d3];exact Bsc hp);omega
 have i3:=c0.code;have i4:=c0.hs;have c9:=fun f (h:Bl w f)=>Bbr m.code J N bm f Ck c0.code0 (d9.kp (Kp.of_below (e:=none) h) Fm);generalize hL:Cd.insts m.code=L;have i5:L.length<=120:=by rw[<- hL];have:=Bbd m.code;omega
 have f3:∀x∈L,0<=x.place:=by rw[<- hL];exact Bkg _
 have hI:=fun c vc bb p op n f (h:Bl w f) (hi:Jz f bb (.s c L.length vc) L) =>
  Bkh ⟨Z,q.length,b1,b0,t.length,b2,tg,tc,ya,yn,yc,cl,nm,pa,pl,pc,r1,r2,m.locals,st,J,m.code.length,N,K,m.handlers.length,l,ma,B.length,mc,c,vc,T,L⟩ bb bm q t p op n f ⟨hT,Mc,c8.below h,hi⟩ rfl rfl Ck h1 d6 (d7.kp (Kp.of_below (e:=none) h) Fm Fm) (d8.kp (Kp.of_below (e:=none) h) Fm Fm Fm Fm Fm)
 have hH:=fun c vc bb x f (h:Bl w f) (hi:Jz f bb (.s c L.length vc) L)=>Bhs ⟨Z,q.length,b1,b0,t.length,b2,tg,tc,ya,yn,yc,cl,nm,pa,pl,pc,r1,r2,m.locals,st,J,m.code.length,N,K,m.handlers.length,l,ma,B.length,mc,c,vc,T,L⟩ bb x f ⟨hT,Mc,c8.below h,hi⟩;have hM:=fun c vc bb f (h:Bl w f) (hi:Jz f bb (.s c L.length vc) L) =>
  Bhq ⟨Z,q.length,b1,b0,t.length,b2,tg,tc,ya,yn,yc,cl,nm,pa,pl,pc,r1,r2,m.locals,st,J,m.code.length,N,K,m.handlers.length,l,ma,B.length,mc,c,vc,T,L⟩ bb bm B f ⟨hT,Mc,c8.below h,hi⟩ rfl Ck f2 (f1.kp (Kp.of_below (e:=none) h) Fm Fm)
 have f4:∀f,Bl w f->K8 f bm (.s K m.handlers.length l) m.handlers:=fun f h=>f0.kp (Kp.of_below (e:=none) h) Fm;unfold Cd.readL Cd.readP Cd.readB at c9;unfold Mt;rw[hL]at c9 ⊢;rw[d3]at hM;simp only[PBd.val]at hI hH hM ⊢;generalize (Cd.fieldSum (q.map Prod.fst):Int)=nf at *;generalize (t.map fun p=>p.1.cl)=ow at *;have f5:∀x,Lp T nf ow m.locals L x = !Cd.argP T nf ow m.locals L x.op x.n:=fun x=>rfl;have f6:∀x,N3 T L (m.code.length:Int) x = !Cd.hndMay T L (m.code.length:Int) x:=fun x=>rfl;generalize f7:Ju (Lp T nf ow m.locals L) L=q1;generalize f8:Cd.firstIx (N3 T L (m.code.length:Int)) 0 m.handlers=G;generalize h2:Cd.faultOf (Cd.inMaps T L 0 0 m.maps)=q3 at *;have f9:Hid (Ju (Lp T nf ow m.locals L) (L.drop 0)=q1):=f7;have g0:Hid (Cd.firstIx (N3 T L (m.code.length:Int)) 0 (m.handlers.drop 0)=G):=f8;have HI:=Bc hI;have HH:=Bc hH;have HM:=Bc hM;have d0:=Bc c9;have h3:=Bc f4;have h4:=Bc f5;have h5:=Bc f6;have h6:=Bc f3;have c5:=Bu w (O16 Z q.length b1 b0 t.length b2 (.p tg) T.length tc ya yn yc cl nm pa pl pc r1 r2 m.locals st J m.code.length N K m.handlers.length l ma B.length mc none 0 0) (O8 0 0 0);have g1:=Cb w (O16 Z q.length b1 b0 t.length b2 (.p tg) T.length tc ya yn yc cl nm pa pl pc r1 r2 m.locals st J m.code.length N K m.handlers.length l ma B.length mc none 0 0) (O8 0 0 0);have d4:=Bx w (O16 Z q.length b1 b0 t.length b2 (.p tg) T.length tc ya yn yc cl nm pa pl pc r1 r2 m.locals st J m.code.length N K m.handlers.length l ma B.length mc none 0 0) (O8 0 0 0);clear f7 f8 h2 hI hH hM c9 f4 f5 f6 f3 c8 d7 d8 d9 f0 f1 f2 c0 d6 hL;by_cases hu:0<=Cd.unread m.code;·rw[Th hu];have b6:=Ba d0 _ c5;rw[Th hu,Th hu,show decide (Cd.unread m.code<0)=false by simp;omega]at b6;generalize Cd.unread m.code=u at *;have d1:=Bc b6;clear b6 d0;go_in;go_wp2_with fail;refine(Ba d1).mono ?_;rintro e w1 ⟨c,vc,rfl,_,b7⟩;have D:=QB c5 b7;have I:=stay b7 d4;obtain⟨q0,q1,G⟩:=fr3 I;obtain⟨z0,z1,z2⟩:=cl3 I;simp at z0 z1 z2;go_wp2_with fail;refine tb (.agg #[.i 5,.i 0,.i u]) (by simp[results,Bve,go_sem,z0,z1,z2]) ?_;exact⟨rfl,((D.setCell Hd _).setCell Hd _).setCell Hd _⟩
 rw[Pk hu];have b6:=Ba d0 _ c5;rw[Pk hu,Pk hu,show decide (Cd.unread m.code<0)=true by simp;omega]at b6;have d1:=Bc b6;clear b6 d0 hu;generalize hF:(if 0<=q1 then ((5:Int),q1) else if 0<=G then (6,G) else q3)=Fa
 have HF:=Bc hF;clear hF;go_in;go_wp2_with fail;refine(Ba d1).mono ?_;rintro e w1 ⟨c,vc,rfl,O,b7⟩;have D:=QB c5 b7;have I:=stay b7 d4;have Q:=stay b7 g1;have lB:=Sp Q;have h7:=Bk Q 14;obtain⟨a0,a1,a2,a3,a4,a5,a6,a7,a8,a9,g2,g3,g4,g5,g6⟩:=Tk Q;simp at a0 a1 a2 a3 a4 a5 a6 a7 a8 a9 g2 g3 g4 g5 g6;have b8:(w1.setCell (.a w.heap.size 14) (.s c L.length vc)).heap[w.heap.size]?=some (O16 Z q.length b1 b0 t.length b2 (.p tg) T.length tc ya yn yc cl nm pa pl pc r1 r2 m.locals st J m.code.length N K m.handlers.length l ma B.length mc c L.length vc):=by rw[Bt Q];rfl
 have C:(w1.setCell (.a w.heap.size 14) (.s c L.length vc)).heap[w.heap.size+1]?=some (O8 0 0 0):=by
  rw[Brk _ _ _ _ Hd];exact I
 have V:=D.setCell (p:=.a w.heap.size 14) Hd (.s c L.length vc);have g7:Jz (w1.setCell (.a w.heap.size 14) (.s c L.length vc)) (w.heap.size+1+1) (.s c L.length vc) L :=
  Jz.kp (by simpa using O) (Kp.set (b:=w.heap.size+1+1) (i:=14) Q (.s c L.length vc)) Fm
 clear O d1 c5 g1 d4;have b4:=Bb b8 14;simp at b4;go_wp2
 go_loopw [27] (fun v wr=>∃k:Nat,k<=L.length/\v=.i (k:Int)/\Hid (Ju (Lp T nf ow m.locals L) (L.drop k)=q1)/\Bl w wr /\
   wr.heap[w.heap.size]?=some (O16 Z q.length b1 b0 t.length b2 (.p tg) T.length tc ya yn yc cl nm pa pl pc r1 r2 m.locals st J m.code.length N K m.handlers.length l ma B.length mc c L.length vc)/\wr.heap[w.heap.size+1]?=some (O8 0 0 0)/\Jz wr (w.heap.size+1+1) (.s c L.length vc) L)
  (fun v _=>L.length-(intOf v).toNat)
 case atStart=>exact⟨0,Ck,rfl,f9,V,b8,C,g7⟩
 case round=>
  clear f9 V b8 C g7 Q I D b7 b4 a0 a1 a2 a3 a4 a5 a6 a7 a8 a9 g2 g3 g4 g5 g6 h7;obtain⟨k,hk,rfl,HQ,Y,CB,CR,O⟩:=hrel;have c6:=Y.size;have lB:=Sp CB;have lR:=Sp CR;obtain⟨m0,m1,m2,m3,m4,m5,m6,m7,m8,m9,c1,c2,c3,c4,b4⟩:=Tk CB;simp at m0 m1 m2 m3 m4 m5 m6 m7 m8 m9 c1 c2 c3 c4 b4;by_cases F:k<L.length
  ·obtain⟨g,hg,h8,_,b3⟩:=Cf O Ck;obtain⟨e1,e2,e3,e4⟩:=Wu L k F;have y0:=(b3 (k*3) Ck).trans e1;have y1:=(b3 (k*3+1) Ck).trans e2;have y2:=(b3 (k*3+2) Ck).trans e3;have hd:L.drop k=L[k]::L.drop (k+1):=Brj F;have hq:=Ba HQ;rw[hd,Ju,Ba h4]at hq;have g8:=Ba h6 _ (Brn F);generalize L[k]=x at *;obtain⟨xp,xo,xn⟩:=x;simp only at y0 y1 y2 hq g8;have D:=Y.alloc c6 (O15 xp xo xn);have c7:Bl wr (wr.alloc (O15 xp xo xn)):=QN _;have b9:=O.kp (Kp.of_below (e:=none) c7) Fm;have l:=Ba HI c vc _ xp xo xn _ D b9;generalize Cd.argP T nf ow m.locals L xo xn=A at *;have HC:=Bc l;have b5:=Bc hq;have g9:=Be wr (O15 xp xo xn);have Q:=Bg CB (O15 xp xo xn);have I:=Bg CR (O15 xp xo xn);have kb:(k:Int)<(L.length:Int):=Ck;clear l hq hd b3 e1 e2 e3 e4 HQ c7;subst hg;cases A with
   | false =>
    have HE:Hid (Fa=(5,xp)):=by
     unfold Hid;have e:q1=xp:=by rw[<- Ba b5];simp
     rw[<- Ba HF,e,Th g8]
    clear b5;go_wp2_with fail;refine Qb (Ba HC) D ?_;intro w2 z V;have C:=stay z I;have h9:=stay z g9;have x0:=Bb h9 0;obtain⟨q0,q1,G⟩:=fr3 C;obtain⟨z0,z1,z2⟩:=cl3 C;simp at z0 z1 z2 x0;go_wp2_with fail;refine tb (.agg #[.i 5,.i 0,.i xp]) (by simp[results,Bve,go_sem,z0,z1,z2]) ?_;rw[Ba HE];exact⟨rfl,((V.setCell Hd _).setCell Hd _).setCell Hd _⟩
   | true =>
    have HG:Hid (Ju (Lp T nf ow m.locals L) (L.drop (k+1))=q1):=by unfold Hid;rw[<- Ba b5];simp
    clear b5;go_wp2_with fail;refine Qb (Ba HC) D ?_;intro w2 z V;have b8:=stay z Q;have C:=stay z I;have d5:=b9.kp (Kp.of_below (e:=none) z) Fm;clear z D Q I g9 Y CB CR m0 m1 m2 m3 m4 m5 m6 m7 m8 m9 c1 c2 c3 c4 b4 y0 y1 y2 b9 O;go_wp2;go_roundw
    case rel=>exact⟨k+1,Ck,Mg,HG,V,b8,C,d5⟩
    case measure=>simp[intOf];omega
  have h0:Hid ((if 0<=G then ((6:Int),G) else q3)=Fa):=by
   unfold Hid;have e:q1 = -1:=by rw[<- Ba HQ,Brq Ck];rfl
   rw[<- Ba HF,e];exact(Pk Ck).symm
  have kb:¬(k:Int)<(L.length:Int):=Ck;clear HQ HF;go_wp2
  go_loopw [43] (fun v d2=>∃k:Nat,k<=m.handlers.length/\v=.i (k:Int)/\Hid (Cd.firstIx (N3 T L (m.code.length:Int)) k (m.handlers.drop k)=G)/\Bl w d2 /\
    d2.heap[w.heap.size]?=some (O16 Z q.length b1 b0 t.length b2 (.p tg) T.length tc ya yn yc cl nm pa pl pc r1 r2 m.locals st J m.code.length N K m.handlers.length l ma B.length mc c L.length vc)/\d2.heap[w.heap.size+1]?=some (O8 0 0 0)/\Jz d2 (w.heap.size+1+1) (.s c L.length vc) L)
   (fun v _=>m.handlers.length-(intOf v).toNat)
  case atStart=>exact⟨0,Ck,rfl,g0,Y,CB,CR,O⟩
  case round=>
   clear g0 Y CB CR O m0 m1 m2 m3 m4 m5 m6 m7 m8 m9 c1 c2 c3 c4 b4 kb hk F lB lR c6;obtain⟨j,hk,rfl,HQ,Y,CB,CR,O⟩:=hrel;have c6:=Y.size;have lB:=Sp CB;have lR:=Sp CR;obtain⟨m0,m1,m2,m3,m4,m5,m6,m7,m8,m9,c1,c2,c3,c4,b4⟩:=Tk CB;simp at m0 m1 m2 m3 m4 m5 m6 m7 m8 m9 c1 c2 c3 c4 b4;by_cases F:j<m.handlers.length
   ·obtain⟨g,hg,h8,_,b3⟩:=Cf (Ba h3 _ Y) Ck;have y0:=(b3 _ (Db m.handlers j F 0 Ck).2).trans (Db m.handlers j F 0 Ck).1;have y1:=(b3 _ (Db m.handlers j F 1 Ck).2).trans (Db m.handlers j F 1 Ck).1;have y2:=(b3 _ (Db m.handlers j F 2 Ck).2).trans (Db m.handlers j F 2 Ck).1;have y3:=(b3 _ (Db m.handlers j F 3 Ck).2).trans (Db m.handlers j F 3 Ck).1;have hd:m.handlers.drop j=m.handlers[j]::m.handlers.drop (j+1):=Brj F;have hq:=Ba HQ;rw[hd,Cd.firstIx,Ba h5]at hq;generalize m.handlers[j]=x at *;obtain⟨x1,x2,x3,x4⟩:=x;simp at y0 y1 y2 y3;have D:=Y.alloc c6 (O19 x1 x2 x3 x4);have c7:Bl wr (wr.alloc (O19 x1 x2 x3 x4)):=QN _;have b9:=O.kp (Kp.of_below (e:=none) c7) Fm;have l:=Ba HH c vc _ ⟨x1,x2,x3,x4⟩ _ D b9;simp only at l;generalize Cd.hndMay T L (m.code.length:Int) ⟨x1,x2,x3,x4⟩=A at *;have HC:=Bc l;have b5:=Bc hq;have Q:=Bg CB (O19 x1 x2 x3 x4);have I:=Bg CR (O19 x1 x2 x3 x4);have kb:(j:Int)<(m.handlers.length:Int):=Ck;clear l hq hd b3 HQ c7;subst hg;cases A with
    | false =>
     have HE:Hid (Fa=(6,(j:Int))):=by
      unfold Hid;have e:G=(j:Int):=by rw[<- Ba b5];simp
      rw[<- Ba h0,e,Th Ck]
     clear b5;go_wp2_with fail;refine Qb (Ba HC) D ?_;intro w2 z V;have C:=stay z I;obtain⟨q0,q1,G⟩:=fr3 C;obtain⟨z0,z1,z2⟩:=cl3 C;simp at z0 z1 z2;go_wp2_with fail;refine tb (.agg #[.i 6,.i 0,.i (j:Int)]) (by simp[results,Bve,go_sem,z0,z1,z2]) ?_;rw[Ba HE];exact⟨rfl,((V.setCell Hd _).setCell Hd _).setCell Hd _⟩
    | true =>
     have HG:Hid (Cd.firstIx (N3 T L (m.code.length:Int)) (j+1) (m.handlers.drop (j+1))=G):=by unfold Hid;rw[<- Ba b5];simp
     clear b5;go_wp2_with fail;refine Qb (Ba HC) D ?_;intro w2 z V;have b8:=stay z Q;have C:=stay z I;have d5:=b9.kp (Kp.of_below (e:=none) z) Fm;clear z D Q I Y CB CR m0 m1 m2 m3 m4 m5 m6 m7 m8 m9 c1 c2 c3 c4 b4 y0 y1 y2 y3 b9 O;go_wp2;go_roundw
     case rel=>exact⟨j+1,Ck,Mg,HG,V,b8,C,d5⟩
     case measure=>simp[intOf];omega
   have HE:Hid (q3=Fa):=by
    unfold Hid;have e:G = -1:=by rw[<- Ba HQ,Brq Ck];rfl
    rw[<- Ba h0,e,Pk Ck]
   have kb:¬(j:Int)<(m.handlers.length:Int):=Ck;have hm:=Ba HM c vc _ _ Y O;have i0:=Bc hm;clear hm HQ;go_wp2_with fail;refine Qm (Ba i0) ?_;intro w2 z;have V:=Y.trans (z.mono c6);have C:=stay z CR;obtain⟨q0,q1,G⟩:=fr3 C;obtain⟨z0,z1,z2⟩:=cl3 C;simp at z0 z1 z2;go_wp2_with fail;refine tb (.agg #[.i q3.1,.i 0,.i q3.2]) (by simp[results,Bve,go_sem,z0,z1,z2]) ?_;rw[Ba HE];exact⟨rfl,((V.setCell Hd _).setCell Hd _).setCell Hd _⟩
variable {ya:Option Addr}{yn yc:Nat}
theorem tq{ops:Array Oper}{md:Region.Mode}{Q:Exit→Act→World→Prop}{S:World→Prop}{fuel:Nat}{listed:Array Bool}{a:Act}{w:World}(i:Nat)(v:Value){d:Option Tmp}{op:Op}{ty:TypeId}{ps:String}{af:Array Edge}{gd:Option (Nat × Bool)}{Z:Prop}(hS:S w)(h:Z)(hi:ops[i]?=some ⟨d,op,ty,ps,af,gd⟩:=by rfl)(hs:Region.noSelect ops=true:=by kernel_rfl)(hf:Region.free md ops listed i=true:=by kernel_rfl)(hr:(Region.ready md ops listed).contains i=true:=by kernel_rfl)(hQ:∀ c a w,Q (.panic c) (a.put d v) w→Q (.panic c) a w:=by exact fun _ _ _ h=>h)(hw:Region.wanted ⟨d,op,ty,ps,af,gd⟩ (yielded ops a.tmps)=true:=by rfl)(hy:∀ w,S w→(execOp a.eval ⟨d,op,ty,ps,af,gd⟩).run Tryz.prog w=.ok (.value v) w:=by intro w' hSw;(try dsimp only at hSw);go_simp)(hn:Z→wpAnyH Tryz.prog md ops Q S fuel (listed.setIfInBounds i true) (a.put d v) w:=by intro q;(try simp only[QX]);exact q):wpAnyH Tryz.prog md ops Q S (fuel+1) listed a w:=wpAnyH_take hi hs hf hr hQ (Or.inl ⟨hw,hy⟩) hS (hn h)
theorem tn{ops:Array Oper}{md:Region.Mode}{Q:Exit→Act→World→Prop}{S:World→Prop}{fuel:Nat}{listed:Array Bool}{a:Act}{w:World}(i:Nat)(v:Value){d:Option Tmp}{op:Op}{ty:TypeId}{ps:String}{af:Array Edge}{gd:Option (Nat × Bool)}{Z:Prop}(hS:S w)(h:Z)(hi:ops[i]?=some ⟨d,op,ty,ps,af,gd⟩:=by rfl)(hs:Region.noSelect ops=true:=by kernel_rfl)(hf:Region.free md ops listed i=true:=by kernel_rfl)(hr:(Region.ready md ops listed).contains i=true:=by kernel_rfl)(hQ:∀ c a w,Q (.panic c) (a.put d v) w→Q (.panic c) a w:=by exact fun _ _ _ h=>h)(hw:Region.wanted ⟨d,op,ty,ps,af,gd⟩ (yielded ops a.tmps)=false:=by rfl)(hv:v=undef:=by rfl)(hn:Z→wpAnyH Tryz.prog md ops Q S fuel (listed.setIfInBounds i true) (a.put d v) w:=by intro q;(try simp only[QX]);exact q):wpAnyH Tryz.prog md ops Q S (fuel+1) listed a w:=wpAnyH_take hi hs hf hr hQ (Or.inr ⟨hw,hv⟩) hS (hn h)
theorem tl{ops:Array Oper}{md:Region.Mode}{Q:Exit→Act→World→Prop}{S:World→Prop}{fuel:Nat}{listed:Array Bool}{a:Act}{w:World}(i:Nat)(v:Value){d:Option Tmp}{op:Op}{ty:TypeId}{ps:String}{af:Array Edge}{gd:Option (Nat × Bool)}(hy:∀ w,S w→(execOp a.eval ⟨d,op,ty,ps,af,gd⟩).run Tryz.prog w=.ok (.value v) w)(hS:S w)(h:wpAnyH Tryz.prog md ops Q S fuel (listed.setIfInBounds i true) (a.put d v) w)(hi:ops[i]?=some ⟨d,op,ty,ps,af,gd⟩:=by rfl)(hs:Region.noSelect ops=true:=by kernel_rfl)(hf:Region.free md ops listed i=true:=by kernel_rfl)(hr:(Region.ready md ops listed).contains i=true:=by kernel_rfl)(hQ:∀ c a w,Q (.panic c) (a.put d v) w→Q (.panic c) a w:=by exact fun _ _ _ h=>h)(hw:Region.wanted ⟨d,op,ty,ps,af,gd⟩ (yielded ops a.tmps)=true:=by rfl):wpAnyH Tryz.prog md ops Q S (fuel+1) listed a w:=wpAnyH_take hi hs hf hr hQ (Or.inl ⟨hw,hy⟩) hS h
theorem tr{ops:Array Oper}{md:Region.Mode}{Q:Exit→Act→World→Prop}{S:World→Prop}{fuel:Nat}{listed:Array Bool}{a:Act}{w:World}(i:Nat){d:Option Tmp}{op:Op}{ty:TypeId}{ps:String}{af:Array Edge}{gd:Option (Nat × Bool)}(h:∀ K:Act→World→Prop,Shut (∀ a w,S w→(S w→wpAnyH Tryz.prog md ops Q S fuel (listed.setIfInBounds i true) a w)→K a w)→if Region.wanted (⟨d,op,ty,ps,af,gd⟩:Oper) (yielded ops a.tmps)=true then Oper.wp Tryz.prog (⟨d,op,ty,ps,af,gd⟩:Oper) a w K Q else K (a.put (⟨d,op,ty,ps,af,gd⟩:Oper).dst undef) w)(ho:ops[i]?=some ⟨d,op,ty,ps,af,gd⟩:=by rfl)(hr:Region.ready md ops listed=[i]:=by kernel_rfl):wpAnyH Tryz.prog md ops Q S (fuel+1) listed a w:=wpAnyH_ready hr (by simp) (AllReadyH.cons ho h AllReadyH.nil)
def Boo{u b n:Nat}{j:TypeId}{a:TA}{O c:Nat}{e:TV}{w:TW}(h:w.ownsRow u j b (.s a O c) n e):n<=c:=by
 obtain⟨_,⟨i,l⟩|⟨g,p,q,f,t,v,z,_⟩⟩:=h
 ·omega
 simp only[Value.slice.injEq]at f;omega
def Vc (q:Int):Int × Int:=if 0<=q then (4,q) else (0,0)
def V6{c:Int}(h:0<=c):Vc c=(4,c):=Th h
def Bfb(a5 a6:TA)(a7 a8 a1:Nat)(m:List (Rd.Mth×Ex))(T:TI)(tg a4 bm:Nat)(w:TW)(hT:T.length<=1000)(c9:Dy w tg T) (d0:m.length<=6)(d1:Eb w bm (.s a6 m.length a1) m)(c4:∀p∈m,p.1.params.length<=1000):Calls prog 106 #[.agg #[.s a5 a7 a8,.s a6 m.length a1],.agg #[.s (.p tg) T.length a4,.s ya yn yc]] w fun e w' => e=.r (.agg #[.i (Vc (Iu T (m.map Prod.fst) 0 (m.map Prod.fst))).1,.i (Vc (Iu T (m.map Prod.fst) 0 (m.map Prod.fst))).2,.i 0])/\Bl w w':=by
 generalize hq:Iu T (m.map Prod.fst) 0 (m.map Prod.fst)=q;have HQ:Hid (Iu T (m.map Prod.fst) 0 ((m.map Prod.fst).drop 0)=q):=hq;clear hq;have c5:=Em w (O1 a5 a7 a8 a6 m.length a1) (O2 (.p tg) T.length a4 ya yn yc) (O8 0 0 0);have C0:=Nz w (O1 a5 a7 a8 a6 m.length a1) (O2 (.p tg) T.length a4 ya yn yc) (O8 0 0 0);go_in;go_wp2
 go_loopw [10] (fun v wr=>∃k:Nat,k<=m.length/\v=.i (k:Int)/\Hid (Iu T (m.map Prod.fst) k ((m.map Prod.fst).drop k)=q)/\Bl w wr/\wr.heap[w.heap.size]?=some (O1 a5 a7 a8 a6 m.length a1) /\
   wr.heap[w.heap.size+1]?=some (O2 (.p tg) T.length a4 ya yn yc)/\wr.heap[w.heap.size+1+1]?=some (O8 0 0 0))
  (fun v _=>m.length-(intOf v).toNat)
 case atStart=>exact⟨0,Ck,rfl,HQ,c5,C0.1,C0.2.1,C0.2.2⟩
 case round=>
  clear HQ c5 C0;obtain⟨k,hk,rfl,HQ,hB,CF,CT,CR⟩:=hrel;have b2:=hB.size;by_cases b9:k<m.length
  ·have b3:Eb wr bm (.s a6 m.length a1) m:=d1.kp (Kp.of_below (e:=none) hB) Fm Fm Fm Fm Fm;have kc:=Boo b3.1;obtain⟨o,g,hg,f3,b5,b4⟩:=b3.mth b9;replace b5:=T5 b5;have c6:=c4 _ (Brn b9);have hd:(m.map Prod.fst).drop k=m[k].1::(m.map Prod.fst).drop (k+1):=by
    rw[Brj (by simpa using b9)];simp
   have hr:=Ba HQ;rw[hd,Iu]at hr;unfold Sl at hr;have c0:=fun w' (h:Bl wr w')=>Bfd (ya:=ya) (yn:=yn) (yc:=yc) T (.p tg) a4 bm o m[k].1 w' (b4.below h) c6;have c1:=fun w' (h:Bl wr w')=>Bad (ya:=ya) (yn:=yn) (yc:=yc) a5 a6 a7 a8 a1 m T tg a4 bm o m[k].1 w' (b4.below h) hT (c9.below (hB.trans (h.mono b2))) d0 (b3.kp (Kp.of_below (e:=none) h) Fm Fm Fm Fm Fm) c6 c4;have c7:((m.map Prod.fst).take k).length=k:=Fr;have b6:=fun w' (h:Bl wr w')=>Bhp ((m.map Prod.fst).take k) a6 a1 o m[k].1 w' b4.cl b4.nm Ck (by
    intro f4 d2 j hj;have d3:j<m.length:=Ck;have d4:=h.trans (d2.mono h.size);obtain⟨o',g',d5,d6,d7,c8⟩:=(b3.kp (Kp.of_below (e:=none) d4) Fm Fm Fm Fm Fm).mth d3;refine⟨o',g',d5,d6,d7,?_,?_⟩
    ·rw[c8.cl];simp
    rw[c8.nm];simp)
   rw[c7]at b6;clear b4 b3 hd c7;generalize N2 T m[k].1=A at *;generalize Ox ((m.map Prod.fst).take k) m[k].1=B at *;generalize Ku T (m.map Prod.fst) m[k].1=C at *;obtain⟨t,z,D,F,G,I,J,L,N,O,cn,Q,V,Y,Z,ma,ml,mc⟩:=o;simp only[PM.val]at b5 c0 b6 c1;obtain⟨y0,y1,y2,y3,y4,y5,y6,y7,y8,y9⟩:=b5;subst hg;have d8:=Bc c0;have d9:=Bc b6;have f2:=Bc c1;clear c0 b6 c1 HQ;have b0:Bl wr (wr.alloc (O18 t z D F G I J L N O cn Q V Y Z ma ml mc)):=QN _;have a3:=Be wr (O18 t z D F G I J L N O cn Q V Y Z ma ml mc);have c2:=Bg CF (O18 t z D F G I J L N O cn Q V Y Z ma ml mc);have c3:=Bg CT (O18 t z D F G I J L N O cn Q V Y Z ma ml mc);have f0:(wr.alloc (O18 t z D F G I J L N O cn Q V Y Z ma ml mc)).C w.heap.size 0 (.s a5 a7 a8):=(Bb c2 0).trans rfl;have f1:(wr.alloc (O18 t z D F G I J L N O cn Q V Y Z ma ml mc)).C w.heap.size 1 (.s (.p g) m.length a1):=(Bb c2 1).trans rfl;have t0:(wr.alloc (O18 t z D F G I J L N O cn Q V Y Z ma ml mc)).C (w.heap.size+1) 0 (.s (.p tg) T.length a4):=(Bb c3 0).trans rfl;have t1:(wr.alloc (O18 t z D F G I J L N O cn Q V Y Z ma ml mc)).C (w.heap.size+1) 1 (.s ya yn yc):=(Bb c3 1).trans rfl;have m0:(wr.alloc (O18 t z D F G I J L N O cn Q V Y Z ma ml mc)).C wr.heap.size 0 (.i t):=(Bb a3 0).trans rfl;have m1:(wr.alloc (O18 t z D F G I J L N O cn Q V Y Z ma ml mc)).C wr.heap.size 1 (.i z):=(Bb a3 1).trans rfl;have m2:(wr.alloc (O18 t z D F G I J L N O cn Q V Y Z ma ml mc)).C wr.heap.size 2 (.s D F G):=(Bb a3 2).trans rfl;have m3:(wr.alloc (O18 t z D F G I J L N O cn Q V Y Z ma ml mc)).C wr.heap.size 3 (.i I):=(Bb a3 3).trans rfl;have m4:(wr.alloc (O18 t z D F G I J L N O cn Q V Y Z ma ml mc)).C wr.heap.size 4 (.i J):=(Bb a3 4).trans rfl;have m5:(wr.alloc (O18 t z D F G I J L N O cn Q V Y Z ma ml mc)).C wr.heap.size 5 (.i L):=(Bb a3 5).trans rfl;have m6:(wr.alloc (O18 t z D F G I J L N O cn Q V Y Z ma ml mc)).C wr.heap.size 6 (.i N):=(Bb a3 6).trans rfl;have m7:(wr.alloc (O18 t z D F G I J L N O cn Q V Y Z ma ml mc)).C wr.heap.size 7 (.s O cn Q):=(Bb a3 7).trans rfl;have m8:(wr.alloc (O18 t z D F G I J L N O cn Q V Y Z ma ml mc)).C wr.heap.size 8 (.s V Y Z):=(Bb a3 8).trans rfl;have m9:(wr.alloc (O18 t z D F G I J L N O cn Q V Y Z ma ml mc)).C wr.heap.size 9 (.s ma ml mc):=(Bb a3 9).trans rfl;have lF:w.heap.size<(wr.alloc (O18 t z D F G I J L N O cn Q V Y Z ma ml mc)).heap.size:=Sp c2;have lT:w.heap.size+1<(wr.alloc (O18 t z D F G I J L N O cn Q V Y Z ma ml mc)).heap.size:=Sp c3;have c:wr.heap.size<(wr.alloc (O18 t z D F G I J L N O cn Q V Y Z ma ml mc)).heap.size:=Sp a3;have kb:(k:Int)<(m.length:Int):=Ck;have f5:(k:Int)<=(a1:Int):=Ck;have x0:=Bb CF 1;simp at x0;have a9:=Bc (fun (_:Unit)=>hr);clear hr;go_wp2;refine Br4 (S:=(fun w'=>w'.C w.heap.size 0 (.s a5 a7 a8)/\w'.C w.heap.size 1 (.s (.p g) m.length a1)/\w'.C (w.heap.size+1) 0 (.s (.p tg) T.length a4)/\w'.C (w.heap.size+1) 1 (.s ya yn yc)/\w'.C wr.heap.size 0 (.i t)/\w'.C wr.heap.size 1 (.i z)/\w'.C wr.heap.size 2 (.s D F G)/\w'.C wr.heap.size 3 (.i I)/\w'.C wr.heap.size 4 (.i J)/\w'.C wr.heap.size 5 (.i L)/\w'.C wr.heap.size 6 (.i N)/\w'.C wr.heap.size 7 (.s O cn Q)/\w'.C wr.heap.size 8 (.s V Y Z)/\w'.C wr.heap.size 9 (.s ma ml mc))) Lt ⟨f0,f1,t0,t1,m0,m1,m2,m3,m4,m5,m6,m7,m8,m9⟩ (fun l=>?_);refine tq 0 (.agg #[.s (.p tg) T.length a4,.s ya yn yc]) l ?_;refine tq 1 (.agg #[.i t,.i z,.s D F G,.i I,.i J,.i L,.i N,.s O cn Q,.s V Y Z,.s ma ml mc]) l ?_;refine tr 2 fun K hK=>?_;go_simp;refine Qm (Ba d8 _ b0.drew) ?_;intro w7 b
   try dsimp only
   clear l;refine hK.out _ _ ⟨QC b lF f0,QC b lF f1,QC b lT t0,QC b lT t1,QC b c m0,QC b c m1,QC b c m2,QC b c m3,QC b c m4,QC b c m5,QC b c m6,QC b c m7,QC b c m8,QC b c m9⟩ (fun l=>?_);clear hK K
   try simp only[QX]
   cases A with
   | false =>
    refine tq 3 (.bool true) l ?_;refine tq 4 (.bool true) l ?_;refine tn 5 undef l ?_;refine tn 6 undef l ?_;refine tn 7 undef l ?_;refine tn 8 undef l ?_;refine tn 9 undef l ?_;refine tn 10 undef l ?_;refine tq 11 (.bool true) l ?_;refine tq 12 (.bool true) l ?_;refine tn 13 undef l ?_;refine tn 14 undef l ?_;refine tn 15 undef l ?_;refine tn 16 undef l ?_;refine tq 17 (.bool true) l ?_;refine Bsg Lt ?_ _;have hX:=(b0.drew).trans (b.mono (Bsx c));have b1:=hB.trans (hX.mono b2);have b7:=stay hX CF;have b8:=stay hX CT;have a2:=stay hX CR;clear l f0 f1 t0 t1 m0 m1 m2 m3 m4 m5 m6 m7 m8 m9;have hr:=Ba a9 ();clear a9;have HE:Hid (q=(k:Int)):=by unfold Hid;rw[<- hr];simp
    clear hr;obtain⟨z0,z1,z2⟩:=cl3 a2;obtain⟨q0,q1,q2⟩:=fr3 a2;have lR:=Sp a2;simp at z0 z1 z2;go_wp2_with fail;refine tb (.agg #[.i 4,.i (k:Int),.i 0]) (by simp[results,Bvf,go_sem,z0,z1,z2]) ?_;rw[Ba HE,V6 Ck];exact⟨rfl,((b1.setCell Fr _).setCell Fr _).setCell Fr _⟩
   | true =>
    refine tq 3 (.bool false) l ?_;refine tq 4 (.bool false) l ?_;refine tq 5 (.q w.heap.size 1) l ?_;refine tq 6 (.s (.p g) m.length a1) l ?_;refine tq 7 (.i (k:Int)) l ?_;refine tq 8 (.s (.p g) k a1) l ?_;refine tq 9 (.agg #[.i t,.i z,.s D F G,.i I,.i J,.i L,.i N,.s O cn Q,.s V Y Z,.s ma ml mc]) l ?_;refine tr 10 fun K hK=>?_;go_simp;refine Qm (Ba d9 _ (b0.drew.trans (b.mono (Bsx c)))) ?_;intro w8 f
    try dsimp only
    clear l;refine hK.out _ _ ⟨QC f (QL b lF) (QC b lF f0),QC f (QL b lF) (QC b lF f1),QC f (QL b lT) (QC b lT t0),QC f (QL b lT) (QC b lT t1),QC f (QL b c) (QC b c m0),QC f (QL b c) (QC b c m1),QC f (QL b c) (QC b c m2),QC f (QL b c) (QC b c m3),QC f (QL b c) (QC b c m4),QC f (QL b c) (QC b c m5),QC f (QL b c) (QC b c m6),QC f (QL b c) (QC b c m7),QC f (QL b c) (QC b c m8),QC f (QL b c) (QC b c m9)⟩ (fun l=>?_);clear hK K
    try simp only[QX]
    cases B with
    | true =>
     refine tq 11 (.bool true) l ?_;refine tq 12 (.bool true) l ?_;refine tn 13 undef l ?_;refine tn 14 undef l ?_;refine tn 15 undef l ?_;refine tn 16 undef l ?_;refine tq 17 (.bool true) l ?_;refine Bsg Lt ?_ _;have hX:=((b0.drew).trans (b.mono (Bsx c))).trans (f.mono (Br5 (Bsx c) b.size));have b1:=hB.trans (hX.mono b2);have b7:=stay hX CF;have b8:=stay hX CT;have a2:=stay hX CR;clear l f0 f1 t0 t1 m0 m1 m2 m3 m4 m5 m6 m7 m8 m9;have hr:=Ba a9 ();clear a9;have HE:Hid (q=(k:Int)):=by unfold Hid;rw[<- hr];simp
     clear hr;obtain⟨z0,z1,z2⟩:=cl3 a2;obtain⟨q0,q1,q2⟩:=fr3 a2;have lR:=Sp a2;simp at z0 z1 z2;go_wp2_with fail;refine tb (.agg #[.i 4,.i (k:Int),.i 0]) (by simp[results,Bvf,go_sem,z0,z1,z2]) ?_;rw[Ba HE,V6 Ck];exact⟨rfl,((b1.setCell Fr _).setCell Fr _).setCell Fr _⟩
    | false =>
     refine tq 11 (.bool false) l ?_;refine tq 12 (.bool false) l ?_;refine tq 13 (.agg #[.s a5 a7 a8,.s (.p g) m.length a1]) l ?_;refine tq 14 (.agg #[.s (.p tg) T.length a4,.s ya yn yc]) l ?_;refine tq 15 (.agg #[.i t,.i z,.s D F G,.i I,.i J,.i L,.i N,.s O cn Q,.s V Y Z,.s ma ml mc]) l ?_;refine tr 16 fun K hK=>?_;go_simp;refine Qm (Ba f2 _ ((b0.drew.trans (b.mono (Bsx c))).trans (f.mono (Br5 (Bsx c) b.size)))) ?_;intro w9 a0
     try dsimp only
     clear l;refine hK.out _ _ ⟨QC a0 (QL f (QL b lF)) (QC f (QL b lF) (QC b lF f0)),QC a0 (QL f (QL b lF)) (QC f (QL b lF) (QC b lF f1)),QC a0 (QL f (QL b lT)) (QC f (QL b lT) (QC b lT t0)),QC a0 (QL f (QL b lT)) (QC f (QL b lT) (QC b lT t1)),QC a0 (QL f (QL b c)) (QC f (QL b c) (QC b c m0)),QC a0 (QL f (QL b c)) (QC f (QL b c) (QC b c m1)),QC a0 (QL f (QL b c)) (QC f (QL b c) (QC b c m2)),QC a0 (QL f (QL b c)) (QC f (QL b c) (QC b c m3)),QC a0 (QL f (QL b c)) (QC f (QL b c) (QC b c m4)),QC a0 (QL f (QL b c)) (QC f (QL b c) (QC b c m5)),QC a0 (QL f (QL b c)) (QC f (QL b c) (QC b c m6)),QC a0 (QL f (QL b c)) (QC f (QL b c) (QC b c m7)),QC a0 (QL f (QL b c)) (QC f (QL b c) (QC b c m8)),QC a0 (QL f (QL b c)) (QC f (QL b c) (QC b c m9))⟩ (fun l=>?_);clear hK K
     try simp only[QX]
     refine tq 17 (.bool C) l ?_;refine Bsg Lt ?_ _;cases C with
     | true =>
      have hX:=(((b0.drew).trans (b.mono (Bsx c))).trans (f.mono (Br5 (Bsx c) b.size))).trans (a0.mono (Br5 (Br5 (Bsx c) b.size) f.size));have b1:=hB.trans (hX.mono b2);have b7:=stay hX CF;have b8:=stay hX CT;have a2:=stay hX CR;clear l f0 f1 t0 t1 m0 m1 m2 m3 m4 m5 m6 m7 m8 m9;have hr:=Ba a9 ();clear a9;have HE:Hid (q=(k:Int)):=by unfold Hid;rw[<- hr];simp
      clear hr;obtain⟨z0,z1,z2⟩:=cl3 a2;obtain⟨q0,q1,q2⟩:=fr3 a2;have lR:=Sp a2;simp at z0 z1 z2;go_wp2_with fail;refine tb (.agg #[.i 4,.i (k:Int),.i 0]) (by simp[results,Bvf,go_sem,z0,z1,z2]) ?_;rw[Ba HE,V6 Ck];exact⟨rfl,((b1.setCell Fr _).setCell Fr _).setCell Fr _⟩
     | false =>
      have hX:=(((b0.drew).trans (b.mono (Bsx c))).trans (f.mono (Br5 (Bsx c) b.size))).trans (a0.mono (Br5 (Br5 (Bsx c) b.size) f.size));have b1:=hB.trans (hX.mono b2);have b7:=stay hX CF;have b8:=stay hX CT;have a2:=stay hX CR;clear l f0 f1 t0 t1 m0 m1 m2 m3 m4 m5 m6 m7 m8 m9;have hr:=Ba a9 ();clear a9;have HG:Hid (Iu T (m.map Prod.fst) (k+1) ((m.map Prod.fst).drop (k+1))=q):=by unfold Hid;rw[<- hr];simp
      clear hr;go_wp2;go_roundw
      case rel=>exact⟨k+1,Ck,Mg,HG,b1,b7,b8,a2⟩
      case measure=>simp[intOf];omega
  have HE:Hid (q = -1):=by unfold Hid;rw[<- Ba HQ,Brq Fr];rfl
  have kb:¬(k:Int)<(m.length:Int):=Ck;clear HQ;obtain⟨z0,z1,z2⟩:=cl3 CR;obtain⟨q0,q1,q2⟩:=fr3 CR;simp at z0 z1 z2;go_wp2_with fail;refine tb (.agg #[.i 0,.i 0,.i 0]) (by simp[results,Bvf,go_sem,z0,z1,z2]) ?_;rw[Ba HE];exact⟨rfl,((hB.setCell Fr _).setCell Fr _).setCell Fr _⟩
variable {ya:Option Addr}{yn yc:Nat}
def Bdv(D z:TA)(F A:Nat)(f:List (Rd.Cls×Value))(c:List (Rd.Mth×Ex))(T:TI)(G J bm:Nat)(w:TW)(hT:T.length<=1000)(b8:Dy w G T) (b9:c.length<=6)(c0:f.length<=6)(c1:∀p∈f,p.1.fields.length<=1000)(c2:Fh w bm (.s D f.length F) f)(a9:Eb w bm (.s z c.length A) c)(c3:∀p∈c,Rz p.1):Calls prog 107 #[.agg #[.s D f.length F,.s z c.length A],.agg #[.s (.p G) T.length J,.s ya yn yc]] w fun e w' => e=.r (.agg #[.i (Gn T (Cd.fieldSum (f.map Prod.fst):Int) (c.map fun p=>p.1.cl) 0 (c.map Prod.fst)).1,.i (Gn T (Cd.fieldSum (f.map Prod.fst):Int) (c.map fun p=>p.1.cl) 0 (c.map Prod.fst)).2.1, .i (Gn T (Cd.fieldSum (f.map Prod.fst):Int) (c.map fun p=>p.1.cl) 0 (c.map Prod.fst)).2.2])/\Bl w w':=by
 have b0:=fun cl nm pa pl pc r1 r2 st ca ha ma cc hc mc (m:Rd.Mth) c4 w' (h:Bl w w') h1 h2 h3 h4 h5 =>
  Bhr D z F A G J ya yn yc cl nm pa pl pc r1 r2 st ca ha ma cc hc mc T bm f c m c4 w' hT (b8.below h) b9 c0 c1 (c2.kp (Kp.of_below (e:=none) h) Fm Fm) (a9.kp (Kp.of_below (e:=none) h) Fm Fm Fm Fm Fm) h1 h2 h3 h4 h5
 generalize (Cd.fieldSum (f.map Prod.fst):Int)=K at *;generalize (c.map fun p=>p.1.cl)=L at *;generalize hq:Gn T K L 0 (c.map Prod.fst)=q;obtain⟨R1,R2,R3⟩:=q;have B:Hid (Gn T K L 0 ((c.map Prod.fst).drop 0)=(R1,R2,R3)):=hq;have c5:=Bc b0;clear hq b0;have b3:=Em w (O1 D f.length F z c.length A) (O2 (.p G) T.length J ya yn yc) (O8 0 0 0);have C0:=Nz w (O1 D f.length F z c.length A) (O2 (.p G) T.length J ya yn yc) (O8 0 0 0);go_in;go_wp2
 go_loopw [11] (fun v wr=>∃k:Nat,k<=c.length/\v=.i (k:Int)/\Hid (Gn T K L k ((c.map Prod.fst).drop k)=(R1,R2,R3))/\Bl w wr/\wr.heap[w.heap.size]?=some (O1 D f.length F z c.length A) /\
   wr.heap[w.heap.size+1]?=some (O2 (.p G) T.length J ya yn yc)/\wr.heap[w.heap.size+1+1]?=some (O8 0 0 0))
  (fun v _=>c.length-(intOf v).toNat)
 case atStart=>exact⟨0,Ck,rfl,B,b3,C0.1,C0.2.1,C0.2.2⟩
 case round=>
  clear B b3 C0;obtain⟨k,hk,rfl,B,t,N,O,I⟩:=hrel;have a3:=t.size;by_cases a4:k<c.length
  ·have b4:Eb wr bm (.s z c.length A) c:=a9.kp (Kp.of_below (e:=none) t) Fm Fm Fm Fm Fm;obtain⟨o,g,hg,c9,a0,c6⟩:=b4.mth a4;replace a0:=T5 a0;have b5:=c3 _ (Brn a4);have hd:(c.map Prod.fst).drop k=c[k].1::(c.map Prod.fst).drop (k+1):=by
    rw[Brj (by simpa using a4)];simp
   have C:=Ba B;rw[hd,Gn]at C;clear hd;generalize c[k].1=y at *;obtain⟨-,-,-,-,e5,-,-,-,e8,a5,e9,a6,b6,lm,a7,a8⟩:=c6;have b7:o.ml=lm.length:=by rw[b6,<- a7];simp
   obtain⟨cl,nm,pa,pl,pc,r1,r2,lo,st,ca,cn,cc,ha,hl,hc,ma,ml,mc⟩:=o;simp only at a0 e5 e8 e9 b7 a5 a6 a8;subst e5 e8 e9 b7;obtain⟨y0,y1,y2,y3,y4,y5,y6,y7,y8,y9⟩:=a0;have l:Bl wr (wr.alloc (O18 cl nm pa pl pc r1 r2 y.locals st ca y.code.length cc ha y.handlers.length hc ma lm.length mc)):=QN _;have a1:=Ba c5 cl nm pa pl pc r1 r2 st ca ha ma cc hc mc y lm _ (t.trans (l.mono a3)) b5 a7 (a5.kp (Kp.of_below (e:=none) l) Fm) (a6.kp (Kp.of_below (e:=none) l) Fm) (a8.kp (Kp.of_below (e:=none) l) Fm Fm);simp only[PBd.val]at a1;generalize hb:Mt T K L y=b at *;obtain⟨b1,b2⟩:=b;simp only at a1 C;have HC:=Bc a1;clear a1 hb b4 b5 b6 a7 a5 a6 a8 B;subst hg;obtain⟨x0,x1⟩:=cl2 N;obtain⟨t0,t1⟩:=cl2 O;simp at x0 x1 t0 t1;have lF:=Sp N;have lT:=Sp O;have kb:(k:Int)<(c.length:Int):=Ck;by_cases h0:b1=0
   ·subst h0;have HG:Hid (Gn T K L (k+1) ((c.map Prod.fst).drop (k+1))=(R1,R2,R3)):=by unfold Hid;rw[<- C];simp
    clear C;go_wp2_with fail;refine Qm (Ba HC) ?_;intro w2 Q;have j:=(QB l Q).alloc (Br5 l.size Q.size) (O8 0 0 b2);have a2:=t.trans (j.mono a3);have c7:=stay j N;have c8:=stay j O;have V:=stay j I;clear Q l j y0 y1 y2 y3 y4 y5 y6 y7 y8 y9 x0 x1 t0 t1 lF lT N O I t;go_wp2;go_roundw
    case rel=>exact⟨k+1,Ck,Mg,HG,a2,c7,c8,V⟩
    case measure=>simp[intOf];omega
   rw[Th h0]at C;have HE:=Bc C;have d0:(b1 != 0)=true:=by simpa using h0
   clear C h0;go_wp2_with fail;refine Qb (Ba HC) l ?_;intro w2 Q j;have a2:=t.trans (j.mono a3);have V:=stay j I;have lR:=Sp V;have d1:=a2.size;have d2:=j.size;obtain⟨Y,Z,z2⟩:=cl3 V;obtain⟨q0,q1,q2⟩:=fr3 V;simp at Y Z z2;clear Q l j y0 y1 y2 y3 y4 y5 y6 y7 y8 y9 x0 x1 t0 t1 lF lT N O I t;go_wp2_with fail;refine tb (.agg #[.i b1,.i (k:Int),.i b2]) (by simp[results,results107,go_sem,Y,Z,z2,lR]) ?_;have e:=Ba HE;simp only[Prod.mk.injEq]at e;obtain⟨rfl,rfl,rfl⟩:=e;exact⟨rfl,(((a2.setCell Fr _).setCell Fr _).setCell Fr _).alloc Fr _⟩
  have HE:Hid ((R1,R2,R3)=((0:Int),(0:Int),(0:Int))):=by unfold Hid;rw[<- Ba B,Brq Fr];rfl
  have kb:¬(k:Int)<(c.length:Int):=Ck;clear B;obtain⟨Y,Z,z2⟩:=cl3 I;obtain⟨q0,q1,q2⟩:=fr3 I;simp at Y Z z2;go_wp2_with fail;refine tb (.agg #[.i 0,.i 0,.i 0]) (by simp[results,results107,go_sem,Y,Z,z2]) ?_;have e:=Ba HE;simp only[Prod.mk.injEq]at e;obtain⟨rfl,rfl,rfl⟩:=e;exact⟨rfl,((t.setCell Fr _).setCell Fr _).setCell Fr _⟩
def Dy.set{w:TW}{u b i:Nat}{z:TI}(h:Dy w u z)(f:b≠u)(c:TX):Dy (w.setCell (.a b i) c) u z :=
 ⟨by simpa[World.setCell] using h.1,fun j m=>by rw[Bu2 _ _ _ _ (by intro e;exact f (congrArg Addr.block e))];exact h.2 j m⟩
def Bn2(A B:TA)(C D:Nat)(b:List (Rd.Cls×Value))(f:List (Rd.Mth×Ex))(L:Nat)(w:TW) (c5:f.length<=6)(b6:b.length<=6)(c6:∀p∈b,p.1.fields.length<=1000)(c7:Fh w L (.s A b.length C) b)(c8:Eb w L (.s B f.length D) f)(b7:∀p∈f,Rz p.1):Calls prog 68 #[.agg #[.s A b.length C,.s B f.length D]] w fun e c => e=.r (.agg #[.i (Lo ⟨b.map Prod.fst,f.map Prod.fst⟩).1,.i (Lo ⟨b.map Prod.fst,f.map Prod.fst⟩).2.1,.i (Lo ⟨b.map Prod.fst,f.map Prod.fst⟩).2.2])/\Bl w c:=by
 have a9:∀c,Bl w c->Fh c L (.s A b.length C) b:=fun c h=>c7.kp (Kp.of_below (e:=none) h) Fm Fm;have b8:∀c,Bl w c->Eb c L (.s B f.length D) f:=fun c h=>c8.kp (Kp.of_below (e:=none) h) Fm Fm Fm Fm Fm;have b9:=fun c (h:Bl w c)=>Bcd A B b.length C f.length D L b c b6 c6 (a9 c h);have c9:=fun c (h:Bl w c)=>Sf A B b.length C f.length D L b c b6 (a9 c h);have d0:(Tr.tree (b.map Prod.fst)).length<=1000:=by rw[Ie];simp;omega
 have d1:=fun ya yn yc g j c (h:Bl w c) F=>Bfb (ya:=ya) (yn:=yn) (yc:=yc) A B b.length C D f (Tr.tree (b.map Prod.fst)) g j L c d0 F c5 (b8 c h) (fun p hp=>by have:=(b7 p hp).ps;omega);have b0:=fun ya yn yc g j c (h:Bl w c) F=>Bdv (ya:=ya) (yn:=yn) (yc:=yc) A B C D b f (Tr.tree (b.map Prod.fst)) g j L c d0 F c5 b6 c6 (a9 c h) (b8 c h) b7;have d2:(f.map fun p=>p.1.cl)=(f.map Prod.fst).map Rd.Mth.cl:=Hd;rw[d2]at b0;generalize m:Lo ⟨b.map Prod.fst,f.map Prod.fst⟩=R;unfold Lo Vb at m;simp only at m;generalize Tr.tree (b.map Prod.fst)=T at *;generalize Tr.inCl T 0 (b.map Prod.fst)=ic at *;generalize Gn T (Cd.fieldSum (b.map Prod.fst):Int) ((f.map Prod.fst).map Rd.Mth.cl) 0 (f.map Prod.fst)=bo at *;generalize d8:Iu T (f.map Prod.fst) 0 (f.map Prod.fst)=hd at *;obtain⟨i1,G⟩:=ic;obtain⟨b1,b2,b3⟩:=bo;obtain⟨R1,R2,R3⟩:=R;simp only at b9 b0 m;have c2:=Bc b9;have d3:=Bc c9;have a0:=Bc d1;have d9:=Bc b0;clear b9 c9 d1 b0 a9 b8 c7 c8 d2 d8 b7;have N:=Bu w (O1 A b.length C B f.length D) (O8 0 0 0);have C0:=Cb w (O1 A b.length C B f.length D) (O8 0 0 0);have D0:=Bx w (O1 A b.length C B f.length D) (O8 0 0 0);by_cases h1:i1=0
 ·subst h1;rw[Pk Hd]at m;by_cases h2:0<=hd;·rw[Th h2]at m;have HE:=Bc m;have a2:Vc hd=(4,hd):=Th h2;rw[a2]at a0;simp only at a0;clear m a2 h2;go_in;go_wp2_with fail;refine Qm (Ba c2 _ N) ?_;intro l q;have O:=(QB N q);have I:=stay q C0;have v:=stay q D0;have b4:=O.size;have f0:=Sp v;obtain⟨x0,x1⟩:=cl2 I;have l1:=Sp I;simp at x0 x1;have J:=O.alloc b4 (O8 0 G 0);have a3:=Bg I (O8 0 G 0);have a4:=Bg v (O8 0 G 0);have a5:=Be l (O8 0 G 0);clear C0 D0 N q;go_wp2_with fail;refine(Ba d3 _ J).mono ?_;rintro e w2 ⟨g,j,ya,yn,yc,rfl,F,-,-,z⟩;have a6:=J.trans (z.mono J.size);have Q:=stay z a3;have D2:=stay z a4;have E2:=stay z a5;have c3:=a6.size;obtain⟨y0,y1⟩:=cl2 Q;have l2:=Sp Q;simp at y0 y1;have K:=a6.alloc c3 (O2 (.p g) T.length j ya yn yc);have a7:=Bg D2 (O2 (.p g) T.length j ya yn yc);have a8:=Bg E2 (O2 (.p g) T.length j ya yn yc);clear x0 x1 l1 I v a3 a4 a5 J z;go_wp2_with fail;refine Qm (Ba a0 ya yn yc g j _ K (F.alloc _)) ?_;intro w3 t;have a1:=K.trans (t.mono K.size);have D3:=stay t a7;have E3:=stay t a8;have f1:=a1.size;have lE:=Sp E3;have lD:=Sp D3;obtain⟨e0,e1,e2⟩:=cl3 E3;obtain⟨g0,g1,g2⟩:=fr3 E3;obtain⟨V,Y,Z⟩:=cl3 D3;obtain⟨q0,q1,q2⟩:=fr3 D3;simp at e0 e1 e2 V Y Z;clear y0 y1 l2 Q D2 E2 a7 a8 K t;have f2:l.heap.size≠w.heap.size+1:=Ck;have b5:w.heap.size+1≠l.heap.size:=Ck;go_wp2_with fail;refine tb (.agg #[.i 4,.i hd,.i 0]) (by simp[results,Bwr,go_sem,V,Y,Z]) ?_;have e:=Ba HE;simp only[Prod.mk.injEq]at e;obtain⟨rfl,rfl,rfl⟩:=e;exact⟨rfl,(((((a1.setCell Fr _).setCell Fr _).setCell Fr _).setCell Hd _).setCell Hd _).setCell Hd _⟩
  rw[Pk h2]at m;have HE:=Bc m;have a2:Vc hd=(0,0):=Pk h2;rw[a2]at a0;simp only at a0;clear m a2 h2;go_in;go_wp2_with fail;refine Qm (Ba c2 _ N) ?_;intro l q;have O:=(QB N q);have I:=stay q C0;have v:=stay q D0;have b4:=O.size;have f0:=Sp v;obtain⟨x0,x1⟩:=cl2 I;have l1:=Sp I;simp at x0 x1;have J:=O.alloc b4 (O8 0 G 0);have a3:=Bg I (O8 0 G 0);have a4:=Bg v (O8 0 G 0);have a5:=Be l (O8 0 G 0);clear C0 D0 N q;go_wp2_with fail;refine(Ba d3 _ J).mono ?_;rintro e w2 ⟨g,j,ya,yn,yc,rfl,F,-,f3,z⟩;have a6:=J.trans (z.mono J.size);have Q:=stay z a3;have D2:=stay z a4;have E2:=stay z a5;have c3:=a6.size;obtain⟨y0,y1⟩:=cl2 Q;have l2:=Sp Q;simp at y0 y1;have K:=a6.alloc c3 (O2 (.p g) T.length j ya yn yc);have d4:=Bg Q (O2 (.p g) T.length j ya yn yc);have d5:=Be w2 (O2 (.p g) T.length j ya yn yc);have a7:=Bg D2 (O2 (.p g) T.length j ya yn yc);have a8:=Bg E2 (O2 (.p g) T.length j ya yn yc);have f7:l.heap.size<w2.heap.size:=Sp E2;clear x0 x1 l1 I v a3 a4 a5 J z;go_wp2_with fail;refine Qm (Ba a0 ya yn yc g j _ K (F.alloc _)) ?_;intro w3 t;have a1:=K.trans (t.mono K.size);have D3:=stay t a7;have E3:=stay t a8;have f1:=a1.size;have lE:=Sp E3;have lD:=Sp D3;obtain⟨e0,e1,e2⟩:=cl3 E3;obtain⟨g0,g1,g2⟩:=fr3 E3;simp at e0 e1 e2;have C3:=stay t d4;have T3:=stay t d5;have lC:=Sp C3;have lT:=Sp T3;obtain⟨c0,c1⟩:=cl2 C3;obtain⟨t0,t1⟩:=cl2 T3;simp at c0 c1 t0 t1;have d6:=(F.alloc (O2 (.p g) T.length j ya yn yc)).below t;clear y0 y1 l2 Q D2 E2 a7 a8 d4 d5 K t;have f2:l.heap.size≠w.heap.size+1:=Ck;have b5:w.heap.size+1≠l.heap.size:=Ck;have f8:w2.heap.size≠l.heap.size:=Ck;have c4:l.heap.size≠g:=by simp at f3;omega
  have f4:=((d6.set (i:=0) c4 (.i 0)).set (i:=1) c4 (.i 0)).set (i:=2) c4 (.i 0);have d7:=((a1.setCell (p:=.a l.heap.size 0) Fr (.i 0)).setCell (p:=.a l.heap.size 1) Fr (.i 0)).setCell (p:=.a l.heap.size 2) Fr (.i 0);have D4:(((w3.setCell (.a l.heap.size 0) (.i 0)).setCell (.a l.heap.size 1) (.i 0)).setCell (.a l.heap.size 2) (.i 0)).heap[w.heap.size+1]?=some (O8 0 0 0):=by
   rw[Brk _ _ _ _ (by simpa using b5),Brk _ _ _ _ (by simpa using b5),Brk _ _ _ _ (by simpa using b5)];exact D3
  clear D3 d6 F a1;go_wp2_with fail;refine Qb (Ba d9 ya yn yc g j _ d7 f4) d7 ?_;intro w5 f5 f6;have D5:=stay f5 D4;obtain⟨V,Y,Z⟩:=cl3 D5;obtain⟨q0,q1,q2⟩:=fr3 D5;simp at V Y Z;go_wp2_with fail;refine tb (.agg #[.i b1,.i b2,.i b3]) (by simp[results,Bwr,go_sem,V,Y,Z]) ?_;have e:=Ba HE;simp only[Prod.mk.injEq]at e;obtain⟨rfl,rfl,rfl⟩:=e;exact⟨rfl,((f6.setCell Hd _).setCell Hd _).setCell Hd _⟩
 rw[Th h1]at m;have HE:=Bc m;have f9:(i1 != 0)=true:=by simpa using h1
 clear m h1;go_in;go_wp2_with fail;refine Qm (Ba c2 _ N) ?_;intro l q;have O:=(QB N q);have v:=stay q D0;have b4:=O.size;have lD:=Sp v;obtain⟨V,Y,Z⟩:=cl3 v;obtain⟨q0,q1,q2⟩:=fr3 v;simp at V Y Z;go_wp2_with fail;refine tb (.agg #[.i i1,.i G,.i 0]) (by simp[results,Bwr,go_sem,V,Y,Z,lD]) ?_;have e:=Ba HE;simp only[Prod.mk.injEq]at e;obtain⟨rfl,rfl,rfl⟩:=e;exact⟨rfl,(((O.setCell Hd _).setCell Hd _).setCell Hd _).alloc Fr _⟩
def Bdp{α β:Type}{l:List (α×β)}{r:List α}(h:l.map Prod.fst=r){P:α->Prop}(b:∀x∈r,P x):∀p∈l,P p.1:=by
 intro p c;refine b p.1 ?_;rw[<- h];exact Bsc c
def Bfl{z:TI}{c:Int}{b:TI}:∀(l:List Rd.Mth) (k:Nat),(Gn z c b k l).1=0->Gn z c b k l=(0,0,0):=by
 intro l
 induction l with
 | nil=>intro k _;rfl
 | cons m r ih =>
  intro k h;unfold Gn at h ⊢;by_cases e:(Mt z c b m).1≠0;·rw[Th e]at h;exact absurd h e
  rw[Pk e]at h ⊢;exact ih _ h
def Bkw(f:Rd.Fil)(h:(Lo f).1=0):Lo f=(0,0,0):=by
 unfold Lo at h ⊢;by_cases b:(Tr.inCl (Tr.tree f.classes) 0 f.classes).1≠0;·rw[Th b]at h;exact absurd h b
 rw[Pk b]at h ⊢;unfold Vb at h ⊢;by_cases c:0<=Iu (Tr.tree f.classes) f.methods 0 f.methods;·rw[Th c]at h;simp at h
 rw[Pk c]at h ⊢;exact Bfl _ _ h
def Bi8(s:ByteArray)(w:TW)(hs:s.size<=maxLen):Calls prog 45 #[.string s] w fun e w' => ∃f Q g j V l,e=.r (.tuple #[.agg #[.s f Q g,.s j V l],.agg #[.i (Gx s.data.toList).1,.i (Gx s.data.toList).2.1,.i (Gx s.data.toList).2.2]])/\((Gx s.data.toList).1=0->∃b c,b.map Prod.fst=(Rd.read s.data.toList).1.classes/\Fh w' w.heap.size (.s f Q g) b/\c.map Prod.fst=(Rd.read s.data.toList).1.methods/\Eb w' w.heap.size (.s j V l) c)/\Bl w w':=by
 have a0:=fun w=>Bmb s w hs;obtain⟨c5,a3⟩:=Yo s.data.toList;obtain⟨c6,a4⟩:=Aw s.data.toList;have a5:(Gx s.data.toList).1=0->Gx s.data.toList=(0,0,0):=by
  intro h;unfold Gx at h ⊢;by_cases m:(Rd.read s.data.toList).2≠0;·rw[Th m]at h;exact absurd h m
  rw[Pk m]at h ⊢;exact Bkw _ h
 generalize t:Gx s.data.toList=P at *;unfold Gx at t;generalize Rd.read s.data.toList=q at *;obtain⟨⟨cs,ms⟩,er⟩:=q;obtain⟨P1,P2,P3⟩:=P;simp only[Prod.mk.injEq]at a0 c5 a3 c6 a4 t a5 ⊢;have b3:=Bc a5;clear a5;have b4:=Bc a0;have c7:=Bc a3;have c8:=Bc a4;clear a0 a3 a4;have a6:=Bu w (O1 none 0 0 none 0 0) (O8 0 0 0);have C0:=Cb w (O1 none 0 0 none 0 0) (O8 0 0 0);have D0:=Bx w (O1 none 0 0 none 0 0) (O8 0 0 0);by_cases m:er=0
 ·subst m;rw[Pk Hd]at t;have HP:=Bc t;clear t;go_in;go_wp2_with fail;refine(Ba b4 _).mono ?_;rintro e p ⟨f,Q,g,j,V,l,rfl,⟨b,J,a7⟩,⟨c,K,a8⟩,v⟩;obtain⟨xa,xc,L⟩:=Bh a7.1;simp only[Value.slice.injEq]at L;obtain⟨rfl,rfl,rfl⟩:=L;obtain⟨xa,xc,L⟩:=Bh a8.1;simp only[Value.slice.injEq]at L;obtain⟨rfl,rfl,rfl⟩:=L;have N:=QB a6 v;have b5:=N.size;have z:=stay v C0;have A:=stay v D0;have lC:=Sp z;have lD:=Sp A;have b6:Fh p (w.heap.size+1+1) (.s f b.length g) b:=by simpa using a7
  have b7:Eb p (w.heap.size+1+1) (.s j c.length l) c:=by simpa using a8
  have a9:Kp none (w.heap.size+1+1) p (p.alloc (O1 f b.length g j c.length l)):=Kp.alloc _ _;have b0:=Bn2 f j g l b c (w.heap.size+1+1) (p.alloc (O1 f b.length g j c.length l))
   (by have:=congrArg List.length K;simp at this;omega) (by have:=congrArg List.length J;simp at this;omega) (Bdp J (Ba c8)) (b6.kp a9 Fm Fm) (b7.kp a9 Fm Fm Fm Fm Fm) (Bdp K (Ba c7))
  rw[J,K,Ba HP]at b0;have c9:=Bc b0;have b1:=N.alloc b5 (O1 f b.length g j c.length l);have b8:=Bg z (O1 f b.length g j c.length l);have b9:=Bg A (O1 f b.length g j c.length l);have c0:=Be p (O1 f b.length g j c.length l);clear b0 a7 a8 v C0 D0 a6 z A a9;go_wp2_with fail;refine Qm (Ba c9) ?_;intro w2 B;have b2:=b1.trans (B.mono b1.size);have C2:=stay B b8;have D2:=stay B b9;have E2:=stay B c0;have c3:=(b6.kp (Kp.alloc (e:=none) p (O1 f b.length g j c.length l)) Fm Fm).kp (Kp.of_below (e:=none) B) Fm Fm;have c4:=(b7.kp (Kp.alloc (e:=none) p (O1 f b.length g j c.length l)) Fm Fm Fm Fm Fm).kp (Kp.of_below (e:=none) B) Fm Fm Fm Fm Fm;have d0:=b2.size;have Y:=Sp C2;have Z:=Sp D2;have d1:=Sp E2;obtain⟨x0,x1⟩:=cl2 E2;obtain⟨C,D⟩:=cl2 C2;obtain⟨F,G,I⟩:=cl3 D2;obtain⟨p0,p1⟩:=fr2 C2;obtain⟨q0,q1,q2⟩:=fr3 D2;simp at x0 x1 C D F G I;clear b8 b9 c0 b1 B;by_cases O:P1=0
  ·obtain⟨-,rfl,rfl⟩:=Ba b3 O;subst O;go_wp2_with fail;refine tb (.tuple #[.agg #[.s f b.length g,.s j c.length l],.agg #[.i 0,.i 0,.i 0]]) (by simp[results,Bws,go_sem,C,D,F,G,I,Y,Z]) ?_;have k1:Kp none (w.heap.size+1+1) w2 ((((((w2.setCell (.a w.heap.size 0) (.s f b.length g)).setCell (.a w.heap.size 1) (.s j c.length l)).setCell (.a (w.heap.size+1) 0) (.i 0)).setCell (.a (w.heap.size+1) 1) (.i 0)).setCell (.a (w.heap.size+1) 2) (.i 0)).alloc (O8 0 0 0)) :=
    (((((Kp.set_lo Ck _).trans (Kp.set_lo Ck _)).trans (Kp.set_lo Ck _)).trans (Kp.set_lo Ck _)).trans (Kp.set_lo Ck _)).trans (Kp.alloc _ _)
   refine⟨f,b.length,g,j,c.length,l,rfl,?_,?_⟩
   ·first|intro _;exact⟨b,c,J,(c3.kp k1 Fm Fm).mono Ck,K,(c4.kp k1 Fm Fm Fm Fm Fm).mono Ck⟩|exact⟨b,J,(c3.kp k1 Fm Fm).mono Ck,c,K,(c4.kp k1 Fm Fm Fm Fm Fm).mono Ck⟩
   exact(((((b2.setCell Hd _).setCell Hd _).setCell Hd _).setCell Hd _).setCell Hd _).alloc Fr _
  have d2:(P1 != 0)=true:=by simpa using O
  go_wp2;have H2:=Bc O;clear O
  go_region
  go_wp2_with fail;refine tb (.tuple #[.agg #[.s none 0 0,.s none 0 0],.agg #[.i P1,.i P2,.i P3]]) (by simp[results,Bws,go_sem,C,D,F,G,I,Y,Z]) ?_;refine⟨none,0,0,none,0,0,rfl,fun h=>absurd h (Ba H2),?_⟩;exact((((((b2.setCell Hd _).setCell Hd _).setCell Hd _).setCell Hd _).setCell Hd _).alloc Fr _).drew
 rw[Th m]at t;have d3:(er != 0)=true:=by simpa using m
 simp only[Prod.mk.injEq]at t;obtain⟨rfl,rfl,rfl⟩:=t;have H1:=Bc m;clear m b3;go_in;go_wp2_with fail;refine(Ba b4 _).mono ?_;rintro e p ⟨f,Q,g,j,V,l,rfl,-,-,v⟩;have N:=QB a6 v;have b5:=N.size;have z:=stay v C0;have A:=stay v D0;have Y:=Sp z;have Z:=Sp A;obtain⟨C,D⟩:=cl2 z;obtain⟨F,G,I⟩:=cl3 A;obtain⟨p0,p1⟩:=fr2 z;obtain⟨q0,q1,q2⟩:=fr3 A;simp at C D F G I;go_wp2_with fail;refine tb (.tuple #[.agg #[.s none 0 0,.s none 0 0],.agg #[.i er,.i 0,.i 0]]) (by simp[results,Bws,go_sem,C,D,F,G,I,Y,Z]) ?_;refine⟨none,0,0,none,0,0,rfl,fun h=>absurd h (Ba H1),?_⟩;exact(((((N.setCell Hd _).setCell Hd _).setCell Hd _).setCell Hd _).setCell Hd _).alloc Fr _
def TyR (w:TW)(v:TX)(l:TP):Prop :=
 (v=.slice none 0 0/\l=[])\/∃g o c cur,v=.slice (some ⟨g,o,none⟩) l.length c/\w.heap[g]?=some (.cells cur 31 (0,0))/\l.length<=c/\c<=maxLen/\∀j x,(Bp l)[j]?=some x->w.cell? ⟨g,o+j,none⟩=some x
def TyR.nil(w:TW):TyR w (.s none 0 0) []:=.inl ⟨rfl,rfl⟩
def TyR.of_tys{w:TW}{u:Nat}{l:TX}{q:TP}(h:Cq w u l q):TyR w l q:=by
 obtain⟨p,⟨e,s⟩|⟨g,t,z,e,D,f,A,B,F,C⟩⟩:=h
 ·exact .inl ⟨e,Bso s⟩
 refine .inr ⟨g,0,t,z,e,f,A,B,fun j c i=>?_⟩;have m:j<(Bp q).length:=(List.getElem?_eq_some_iff.1 i).1;rw[Brz,Bb f,<- i,<- C,Bs0,Th (by rw[p]at m;exact m)];simp
def TyR.below{w s:TW}{l:TX}{q:TP}(h:TyR w l q)(e:Bl w s):TyR s l q:=by
 rcases h with h|⟨g,o,c,f,i,b,m,t,z⟩
 ·exact .inl h
 exact .inr ⟨g,o,c,f,i,(e.block g (Sp b)).trans b,m,t,fun j x A=>by rw[e.cell (p:=.a g (o+j)) (Sp b)];exact z j x A⟩
def TyR.shape{w:TW}{l:TX}{q:TP}(h:TyR w l q):∃a c,l=.s a q.length c:=by
 rcases h with ⟨rfl,rfl⟩|⟨g,o,c,e,b,_⟩
 ·exact⟨none,0,rfl⟩
 exact⟨_,c,b⟩
def TyR.cap{w:TW}{a:TA}{n b:Nat}{q:TP}(h:TyR w (.s a n b) q):n=q.length/\q.length<=b/\b<=maxLen:=by
 rcases h with ⟨e,rfl⟩|⟨g,o,j,m,f,_,e,i,_⟩
 ·simp only[Value.slice.injEq]at e;obtain⟨_,rfl,rfl⟩:=e;exact⟨rfl,Bru _,Bsb _⟩
 simp only[Value.slice.injEq]at f;obtain⟨_,rfl,rfl⟩:=f;exact⟨rfl,e,i⟩
def TyR.at{w:TW}{a:TA}{n b:Nat}{q:TP}(h:TyR w (.s a n b) q)(m:0<q.length):∃g o,a=some ⟨g,o,none⟩/\g<w.heap.size/\∀k (e:k<q.length),w.C g (o+k*2) (.i q[k].1)/\w.C g (o+k*2+1) (.i q[k].2):=by
 rcases h with ⟨_,rfl⟩|⟨g,o,z,A,f,p,_,_,j⟩
 ·simp at m
 simp only[Value.slice.injEq]at f;refine⟨g,o,f.1,Sp p,fun k e=>?_⟩;obtain⟨t,v,_⟩:=Fu q k e;exact⟨j _ _ t,by rw[Buc];exact j _ _ v⟩
def Ue(l:TP)(k:Nat):Bp (l.take k)=(Bp l).take (k*2):=by
 induction l generalizing k with
 | nil=>simp[Bp]
 | cons x r ih =>
  cases k with
  | zero=>simp[Bp]
  | succ j =>
   have e:Bp (x::r)=.i x.1::.i x.2::Bp r:=by simp[Bp]
   have b:Bp (x::r.take j)=.i x.1::.i x.2::Bp (r.take j):=by simp[Bp]
   rw[Buy,e,b,ih,show (j+1)*2=j*2+1+1 by omega,Buy,Buy]
def Xl(l:TP)(k:Nat):Bp (l.drop k)=(Bp l).drop (k*2):=by
 induction l generalizing k with
 | nil=>simp[Bp]
 | cons x r ih =>
  cases k with
  | zero=>simp[Bp]
  | succ j =>
   have e:Bp (x::r)=.i x.1::.i x.2::Bp r:=by simp[Bp]
   rw[Bvk,e,ih,show (j+1)*2=j*2+1+1 by omega,Bvk,Bvk]
def TyR.take{w:TW}{a:TA}{n b:Nat}{q:TP}(h:TyR w (.s a n b) q){k:Nat}(m:k<=q.length):TyR w (.s a k b) (q.take k):=by
 rcases h with ⟨f,rfl⟩|⟨g,o,B,p,i,t,f,v,z⟩
 ·simp only[Value.slice.injEq]at f;obtain⟨rfl,rfl,rfl⟩:=f;have:k=0:=by simpa using m
  subst this;exact .inl ⟨rfl,rfl⟩
 simp only[Value.slice.injEq]at i;obtain⟨rfl,rfl,rfl⟩:=i;have A:(q.take k).length=k:=Fr;refine .inr ⟨g,o,b,p,by rw[A],t,Ck,v,fun j x e=>z j x ?_⟩;rw[Ue,Bs0]at e
 split at e
 ·exact e
 simp at e
def TyR.drop{w:TW}{u o:Nat}{n O:Nat}{q:TP}(h:TyR w (.s (some ⟨u,o,none⟩) n O) q){k m d:Nat}(z:k<=q.length)(A:m=q.length-k)(B:d=O-k):TyR w (.s (some ⟨u,o+k*2,none⟩) m d) (q.drop k):=by
 rcases h with ⟨b,rfl⟩|⟨C,D,F,i,e,p,b,G,t⟩
 ·simp at b
 simp only[Value.slice.injEq,Option.some.injEq,Addr.mk.injEq,Br8]at e;obtain⟨⟨rfl,rfl⟩,rfl,rfl⟩:=e;have v:(q.drop k).length=m:=Fr;refine .inr ⟨u,o+k*2,d,i,by rw[v],p,Ck,Ck,fun j x f=>?_⟩;rw[Xl,List.getElem?_drop]at f;rw[Buc];exact t _ _ f
def TyR.new1(w:TW)(k n:Int):TyR (w.alloc (O7 k n)) (.s (.p w.heap.size) 1 1) [(k,n)]:=by
 refine .inr ⟨w.heap.size,0,1,_,rfl,Be w _,Hd,Pf,fun j x b=>?_⟩;rw[Bb (Be w _),Brz];simpa[Bp] using b
def TyR.new2(w:TW)(k n b c:Int):TyR (w.alloc (O20 k n b c)) (.s (.p w.heap.size) 2 2) [(k,n),(b,c)]:=by
 refine .inr ⟨w.heap.size,0,2,_,rfl,Be w _,Hd,Pf,fun j x e=>?_⟩;rw[Bb (Be w _),Brz];simpa[Bp] using e
def Jo{w:TW}{q:Array Oper}{t:List Oper}{o:Oper}{a:Act}{Q:Exit->Act->TW->Prop}(z:o.guard=none)(s x:Operand) (A:o.op=.call { callee:=.builtin .append,args:=#[s,x],argTypes:=#[105,105] }) (e:Nat)(v:TX)(f b:TP)(B:TA)(C vc:Nat)(D:a.eval s=v)(m:w.ownsRow e 31 2 v f.length (Bp f))(F:a.eval x=.s B C vc)(J:TyR w (.s B C vc) b) (h1:f.length+b.length<=100000)(K:e<=w.heap.size) (h:∀l i,i.ownsRow e 31 2 l (f++b).length (Bp (f++b))->w.grownBy i v.ownBlock->wpList prog q Q t (a.put o.dst l) i):wpList prog q Q (o::t) a w:=by
 obtain⟨G,I,L,N,O⟩:=Bsa Tryz.infoType;rcases J with ⟨p,rfl⟩|⟨g,V,c,a2,p,hg,hc,hm,Y⟩
 ·refine Bwp z s x _ A e 31 G 2 Bsk I v _ _ D m (F.trans p) ?_;exact h v w (by simpa using m) (World.grownBy.refl _ _)
 refine Br3 w z s x _ A e 31 G _ 2 16 Bsk I L N O rfl Ck v _ _ D m ⟨g,V,none⟩ b.length c (Bp b) (F.trans p) (Jm b) ?_ (Sg b) Pf Ck K ?_
 ·intro j u Z;rw[Bvc];exact Y j u Z
 intro l i a0 a1 _;exact h l i (by rw[Ws,Ib];exact a0) a1
structure Bf where
 locals:List (Int × Int)
 stack:List (Int × Int)
def Ds (r:Int × Int):List (Int × Int):=if r.1=0 then [] else [r]
def Ci (a b:Int × Int)(l:TP):List (Int × Int):=l.map fun x=>if x=a then b else x
def Hw (T:TI):TP->TP->Bool
 | _,[]=>true
 | [],_::_=>false
 | s::ss,t::ts=>Tr.rfits T s.1 s.2 t.1 t.2&&Hw T ss ts
def Ey (T:TI)(st want:TP):Bool:=if st.length<want.length then false else Hw T (st.drop (st.length-want.length)) want
def Cj (T:TI)(a b:Bf):Bool :=
 if a.stack.length≠b.stack.length then false else if a.locals.length≠b.locals.length then false else Ey T a.locals b.locals&&Ey T a.stack b.stack
def Ym(k:Int)(w:TW):Calls prog 141 #[.i k] w fun e b=>∃a c,e=.r (.s a 1 c)/\TyR b (.s a 1 c) [(k,0)]/\Bl w b:=by
 have h:=TyR.new1 w k 0;go_in;go_wp2;go_ret;exact⟨_,_,rfl,h,QN _⟩
def Lb(c:Int)(w:TW):Calls prog 142 #[.i c] w fun e b=>e=.r (.agg #[.i 3,.i c])/\Bl w b:=by
 go_in;go_wp2_with fail;refine tb (.agg #[.i 3,.i c]) (by simp[results,results142,go_sem]) ?_;exact⟨rfl,QN _⟩
def Zj(m:RMV)(w:TW):Calls prog 143 #[m.val] w fun e f=>∃a c,e=.r (.s a (Ds (m.r1,m.r2)).length c)/\TyR f (.s a (Ds (m.r1,m.r2)).length c) (Ds (m.r1,m.r2))/\Bl w f:=by
 obtain⟨i,j,l,p,q,b,g,t,v,z,A,B,C,D,F,G,I,J⟩:=m;simp only[RMV.val];unfold Ds;simp only;by_cases h:b=0;·subst h;go_in;go_wp2;go_ret;exact⟨none,0,rfl,TyR.nil _,QN _⟩
 rw[Pk h];have L:(b==0)=false:=by simpa using h
 have K:=TyR.new1 (w.alloc (O12 i j l p q b g t v z A B C D F G I J)) b g;clear h;go_in;go_wp2;go_ret;exact⟨_,_,rfl,by simpa using K,Bu _ _ _⟩
def Dr{u n:Nat}{a w:TW}(h:Below u a w):Below u a (w.drewN n):=⟨h.os,h.tape,h.output,h.size,h.block⟩
def Xi(a b:Int×Int)(l:TP)(q:Nat)(c:q<l.length):Ci a b (l.take (q+1))=Ci a b (l.take q)++[if l[q]=a then b else l[q]]:=by
 unfold Ci;rw[Bss c,Bse];rfl
def Gw{w:TW}{u:Nat}{l:TX}{q:TP}{n:Nat}(h:w.ownsRow u 31 2 l n (Bp q))(c:n=q.length):TyR w l q:=by
 subst c;exact TyR.of_tys h
def My(b f:TP)(h i:TA)(l m p q:Nat)(w:TW)(z:TyR w (.s h l m) b)(A:TyR w (.s i p q) f)(I:b.length+f.length<=10000):Calls prog 296 #[.s h l m,.s i p q] w fun e B=>∃a c,e=.r (.s a (b.length+f.length) c)/\Cq B w.heap.size (.s a (b.length+f.length) c) (b++f)/\Bl w B:=by
 go_in;go_wp2_with (at_builtin;refine Jo rfl _ _ rfl w.heap.size _ [] b h l m rfl (Brw _ _ _ _) rfl z Fr Ck ?_)
 intro J K C g;have t:=(Brm w.heap.size w).grown g Ck (fun j v=>by simp[Value.ownBlock]at v);have F:=A.below t;have L:=t.size;clear g z A;go_wp2_with (at_builtin;refine Jo rfl _ _ rfl w.heap.size _ b f i p q rfl C rfl F Ck Ck ?_)
 intro N O D g;have G:=t.grown g Ck (fun j v=>(C.lt j v).1);obtain⟨a,c,rfl⟩:=Bh D;clear g;go_wp2;go_ret;exact⟨a,c,rfl,by unfold Cq;rw[Ws];exact D,G⟩
def Rl(l:TP)(va:TA)(vn vc:Nat)(k n b f:Int)(w:TW)(h1:TyR w (.s va vn vc) l)(hl:l.length<=10000):Calls prog 297 #[.s va vn vc,.agg #[.i k,.i n],.agg #[.i b,.i f]] w fun e w'=>∃a c,e=.r (.s a l.length c)/\Cq w' w.heap.size (.s a l.length c) (Ci (k,n) (b,f) l)/\Bl w w':=by
 obtain⟨rfl,-,-⟩:=h1.cap;obtain⟨i0,hi,a4,a5,a6⟩:=Bsa Tryz.infoType;have a9:=Bu w (O7 k n) (O7 b f);have C0:=Cb w (O7 k n) (O7 b f);have D0:=Bx w (O7 k n) (O7 b f);go_in;go_wp2
 go_loopw [7,8] (fun v i wr=>∃q:Nat,q<=l.length/\i=.i (q:Int)/\wr.ownsRow (w.heap.size+1+1) 31 2 v q (Bp (Ci (k,n) (b,f) (l.take q)))/\Bl w wr /\
   wr.heap[w.heap.size]?=some (O7 k n)/\wr.heap[w.heap.size+1]?=some (O7 b f))
  (fun _ i _=>l.length-(intOf i).toNat)
 case atStart=>exact⟨0,Ck,rfl,Brw _ _ _ _,a9,C0,D0⟩
 case round=>
  clear a9 C0 D0;obtain⟨q,hq,rfl,m,F,I,J⟩:=hrel;have a7:=F.size;have lC:=Sp I;have lD:=Sp J;obtain⟨ua,uc,rfl⟩:=Bh m;by_cases b0:q<l.length
  ·obtain⟨g,o,rfl,hg,a8⟩:=(h1.below F).at Ck;obtain⟨x0,x1⟩:=a8 q b0;have G:Ci (k,n) (b,f) (l.take (q+1))=Ci (k,n) (b,f) (l.take q)++[if l[q]=(k,n) then (b,f) else l[q]]:=Xi _ _ l q b0
   generalize l[q]=t at *;obtain⟨p,A⟩:=t;simp only at x0 x1;obtain⟨y0,y1⟩:=cl2 I;obtain⟨z0,z1⟩:=cl2 J;simp at y0 y1 z0 z1;have kb:(q:Int)<(l.length:Int):=Ck;have b2:=Bc a8;clear a8;by_cases a2:p=k
   ·subst a2;by_cases a3:A=n
    ·subst a3;rw[Th rfl]at G;have N:=Bc G;clear G;go_wp2;go_quiet (fail);go_wp2_with (at_builtin;refine Br3 _ rfl _ _ 105 rfl (w.heap.size+1+1) 31 i0 _ 2 16 Bsk hi a4 a5 a6 rfl Fm _ _ _ rfl (m.alloc _) ⟨wr.heap.size,0,none⟩ 1 1 [.i b,.i f] rfl rfl ?c1 ?c2 ?c3 ?c4 ?c5 ?_)
     case c1=>exact Dh _ _ _ _ rfl
     case c2=>intro u K;simp at K;rcases K with rfl|rfl<;>rfl
     case c3=>unfold maxLen;omega
     case c4=>omega
     case c5=>simp;omega
     rename_i nq;intro O B L z _;have Q:(wr.drewN nq).ownsRow (w.heap.size+1+1) 31 2 (.s ua q uc) q (Bp (Ci (p,A) (b,f) (l.take q))):=m;have V:=((Dr (n:=nq) F).alloc (show w.heap.size<=(wr.drewN nq).heap.size from a7) (O7 b f)).grown z Fr (fun j Y=>by have:=(m.lt j Y).1;omega);have C:Kp none 0 wr ((wr.drewN nq).alloc (O7 b f)):=Kp.alloc (wr.drewN nq) _;have Z:B.heap[w.heap.size]?=some (O7 p A):=by
      rw[z.block _ Fr (fun D=>by have:=(m.lt _ D.symm).1;omega)];exact C _ _ _ (Bsb _) I Hd
     have a0:B.heap[w.heap.size+1]?=some (O7 b f):=by
      rw[z.block _ Fr (fun D=>by have:=(m.lt _ D.symm).1;omega)];exact C _ _ _ (Bsb _) J Hd
     have a1:B.ownsRow (w.heap.size+1+1) 31 2 O (q+1) (Bp (Ci (p,A) (b,f) (l.take (q+1)))):=by rw[Ba N,Ib];exact L
     clear z m Q L F I J C x0 x1 y0 y1 z0 z1;go_wp2;go_roundw
     case rel=>exact⟨q+1,Ck,Mg,a1,V,Z,a0⟩
     case measure=>simp[intOf];omega
    have he:(A==n)=false:=by simpa using a3
    rw[Pk (by simpa using a3)]at G;clear a3;have N:=Bc G;clear G;go_wp2;go_quiet (fail);go_wp2_with (at_builtin;refine Br3 _ rfl _ _ 105 rfl (w.heap.size+1+1) 31 i0 _ 2 16 Bsk hi a4 a5 a6 rfl Fm _ _ _ rfl (m.alloc _) ⟨wr.heap.size,0,none⟩ 1 1 [.i p,.i A] rfl rfl ?c1 ?c2 ?c3 ?c4 ?c5 ?_)
    case c1=>exact Dh _ _ _ _ rfl
    case c2=>intro u K;simp at K;rcases K with rfl|rfl<;>rfl
    case c3=>unfold maxLen;omega
    case c4=>omega
    case c5=>simp;omega
    rename_i nq;intro O B L z _;have Q:(wr.drewN nq).ownsRow (w.heap.size+1+1) 31 2 (.s ua q uc) q (Bp (Ci (p,n) (b,f) (l.take q))):=m;have V:=((Dr (n:=nq) F).alloc (show w.heap.size<=(wr.drewN nq).heap.size from a7) (O7 p A)).grown z Fr (fun j Y=>by have:=(m.lt j Y).1;omega);have C:Kp none 0 wr ((wr.drewN nq).alloc (O7 p A)):=Kp.alloc (wr.drewN nq) _;have Z:B.heap[w.heap.size]?=some (O7 p n):=by
     rw[z.block _ Fr (fun D=>by have:=(m.lt _ D.symm).1;omega)];exact C _ _ _ (Bsb _) I Hd
    have a0:B.heap[w.heap.size+1]?=some (O7 b f):=by
     rw[z.block _ Fr (fun D=>by have:=(m.lt _ D.symm).1;omega)];exact C _ _ _ (Bsb _) J Hd
    have a1:B.ownsRow (w.heap.size+1+1) 31 2 O (q+1) (Bp (Ci (p,n) (b,f) (l.take (q+1)))):=by rw[Ba N,Ib];exact L
    clear z m Q L F I J C x0 x1 y0 y1 z0 z1;go_wp2;go_roundw
    case rel=>exact⟨q+1,Ck,Mg,a1,V,Z,a0⟩
    case measure=>simp[intOf];omega
   have he:(p==k)=false:=by simpa using a2
   rw[Pk (by simpa using fun h=>absurd h a2)]at G;clear a2;have N:=Bc G;clear G;go_wp2;go_quiet (fail);go_wp2_with (at_builtin;refine Br3 _ rfl _ _ 105 rfl (w.heap.size+1+1) 31 i0 _ 2 16 Bsk hi a4 a5 a6 rfl Fm _ _ _ rfl (m.alloc _) ⟨wr.heap.size,0,none⟩ 1 1 [.i p,.i A] rfl rfl ?c1 ?c2 ?c3 ?c4 ?c5 ?_)
   case c1=>exact Dh _ _ _ _ rfl
   case c2=>intro u K;simp at K;rcases K with rfl|rfl<;>rfl
   case c3=>unfold maxLen;omega
   case c4=>omega
   case c5=>simp;omega
   rename_i nq;intro O B L z _;have Q:(wr.drewN nq).ownsRow (w.heap.size+1+1) 31 2 (.s ua q uc) q (Bp (Ci (k,n) (b,f) (l.take q))):=m;have V:=((Dr (n:=nq) F).alloc (show w.heap.size<=(wr.drewN nq).heap.size from a7) (O7 p A)).grown z Fr (fun j Y=>by have:=(m.lt j Y).1;omega);have C:Kp none 0 wr ((wr.drewN nq).alloc (O7 p A)):=Kp.alloc (wr.drewN nq) _;have Z:B.heap[w.heap.size]?=some (O7 k n):=by
    rw[z.block _ Fr (fun D=>by have:=(m.lt _ D.symm).1;omega)];exact C _ _ _ (Bsb _) I Hd
   have a0:B.heap[w.heap.size+1]?=some (O7 b f):=by
    rw[z.block _ Fr (fun D=>by have:=(m.lt _ D.symm).1;omega)];exact C _ _ _ (Bsb _) J Hd
   have a1:B.ownsRow (w.heap.size+1+1) 31 2 O (q+1) (Bp (Ci (k,n) (b,f) (l.take (q+1)))):=by rw[Ba N,Ib];exact L
   clear z m Q L F I J C x0 x1 y0 y1 z0 z1;go_wp2;go_roundw
   case rel=>exact⟨q+1,Ck,Mg,a1,V,Z,a0⟩
   case measure=>simp[intOf];omega
  have e:l.take q=l:=Bs7 Ck;have e2:q=l.length:=Ck;subst e2;rw[e]at m;have b1:(Ci (k,n) (b,f) l).length=l.length:=by simp[Ci]
  clear e;go_wp2;go_ret;exact⟨ua,uc,rfl,by unfold Cq;rw[b1];exact D6 m Ck,F⟩
structure RFv where
 fa1:Option Addr
 fl:Nat
 fc1:Nat
 fa2:Option Addr
 fm:Nat
 fc2:Nat
def RFv.val(f:RFv):Value:=.agg #[.slice f.fa1 f.fl f.fc1,.slice f.fa2 f.fm f.fc2]
def RFl.v(f:RFl):RFv:=⟨f.a1,f.l.length,f.c1,f.a2,f.ms.length,f.c2⟩
def RFv.fitsAs(f:RFv)(T:TI)(w:TW):Prop:=∀k n k' n' w',Below w.heap.size w w' ->
 Calls Tryz.prog 178 #[f.val,.agg #[.int .i64 k,.int .i64 n],.agg #[.int .i64 k',.int .i64 n']] w' fun e w''=>e=.returned (.bool (Tr.rfits T k n k' n'))/\Below w'.heap.size w' w''
def RFv.fitsAs.below{f:RFv}{z:TI}{w s:TW}(h:f.fitsAs z w)(b:Bl w s):f.fitsAs z s:=fun k n c e g i=>h k n c e g (b.trans (i.mono b.size))
def RFl.fitsAs{f:RFl}{w:TW}(b:f.ok w):f.v.fitsAs f.T w:=fun k n c e g h=>Bjk f.a1 f.a2 f.c1 f.ms.length f.c2 f.bb f.l k n c e g (by have:=b.1;omega) (b.below h).2.2.2.2.1
def Vn(f:RFv)(T:TI)(h b:TP)(a1 a2:TA)(n1 c1 n2 c2:Nat)(w:TW)(hF:f.fitsAs T w)(h1:TyR w (.s a1 n1 c1) h)(h2:TyR w (.s a2 n2 c2) b)(b1:h.length<=20000)(b2:b.length<=20000):Calls prog 226 #[f.val,.s a1 n1 c1,.s a2 n2 c2] w fun e m=>e=.r (.bool (Ey T h b))/\Bl w m:=by
 obtain⟨rfl,-,-⟩:=h1.cap;obtain⟨rfl,-,-⟩:=h2.cap;obtain⟨z,B,D,F,G,I⟩:=f;unfold RFv.fitsAs at hF;simp only[RFv.val]at hF ⊢;have HF:=Bc hF;clear hF;have Y:Bl w (w.alloc (O11 z B D F G I)):=QN _;have C0:=Be w (O11 z B D F G I);unfold Ey;by_cases J:h.length<b.length;·rw[Th J];have b3:(h.length:Int)-(b.length:Int)<0:=Ck;clear J;go_in;go_wp2;go_ret;exact⟨rfl,Y⟩
 rw[Pk J];obtain⟨c,a8⟩:∃c:Nat,h.length=c+b.length:=⟨h.length-b.length,Ck⟩;have e0:h.length-b.length=c:=Ck;rw[e0];generalize j:Hw T (h.drop c) b=r;have p:Hid (Hw T ((h.drop c).drop 0) (b.drop 0)=r):=j;have b4:(h.length:Int)-(b.length:Int)=(c:Int):=Ck;have b5:c+b.length<=h.length:=Ck;have b6:h.length<=c+b.length:=Ck;clear J e0 j a8;go_in;go_wp2
 go_loopw [8] (fun i wr=>∃q:Nat,q<=b.length/\i=.i (q:Int)/\Hid (Hw T ((h.drop c).drop q) (b.drop q)=r)/\Bl w wr/\wr.heap[w.heap.size]?=some (O11 z B D F G I))
  (fun i _=>b.length-(intOf i).toNat)
 case atStart=>exact⟨0,Ck,rfl,p,Y,C0⟩
 case round=>
  clear p Y C0;obtain⟨q,hq,rfl,p,v,Z⟩:=hrel;have a9:=v.size;have lF:=Sp Z;by_cases a0:q<b.length
  ·obtain⟨g,o,rfl,hg,a3⟩:=(h1.below v).at Ck;obtain⟨g2,o2,rfl,a4,a5⟩:=(h2.below v).at Ck;have a6:c+q<h.length:=Ck;obtain⟨K,L⟩:=a3 (c+q) a6;obtain⟨N,O⟩:=a5 q a0;have j:=Ba p;have e1:(h.drop c).drop q=h[c+q]::(h.drop c).drop (q+1):=by
    rw[List.drop_drop,List.drop_drop,Brj a6];rfl
   have e2:b.drop q=b[q]::b.drop (q+1):=Brj a0;rw[e1,e2,Hw]at j;generalize h[c+q]=s at *;generalize b[q]=t at *;obtain⟨s1,s2⟩:=s;obtain⟨t1,t2⟩:=t;simp only at K L N O j;have hc:=Ba HF s1 s2 t1 t2 _ v.drew;generalize Tr.rfits T s1 s2 t1 t2=A at *;have HC:=Bc hc;obtain⟨Q,V⟩:=cl2 Z;simp at Q V;have kb:(q:Int)<(b.length:Int):=Ck;have b7:(c:Int)+(q:Int)<(h.length:Int):=Ck;have kw:IntKind.i64.wrap ((c:Int)+(q:Int))=(c:Int)+(q:Int):=Cx _ Ck Ck;have kn:((c:Int)+(q:Int)).toNat=c+q:=Ck;have k0:(0:Int)<=(c:Int)+(q:Int):=Ck;clear a3 a5 e1 e2 hc p;go_wp2
   go_region_held3 (fun m=>m.C w.heap.size 0 (.s z B D)/\m.C w.heap.size 1 (.s F G I)/\m.C g (o+(c+q)*2) (.i s1)/\m.C g (o+(c+q)*2+1) (.i s2)/\m.C g2 (o2+q*2) (.i t1)/\m.C g2 (o2+q*2+1) (.i t2))
    (first|exact⟨Q,V,K,L,N,O⟩|exact⟨QC l lF Q,QC l lF V,QC l hg K,QC l hg L,QC l a4 N,QC l a4 O⟩)
    (first|(go_at_call 178;refine(Ba HC).mono ?_;rintro e w7 ⟨rfl,l⟩))
   have a7:=v.drew.trans (l.mono a9);have b0:=stay l (show (wr.drew).heap[w.heap.size]?=_ from Z);clear l K L N O Q V HC;cases A with
   | true =>
    have HG:Hid (Hw T ((h.drop c).drop (q+1)) (b.drop (q+1))=r):=by unfold Hid;rw[<- j];simp
    clear j;go_wp2;go_roundw
    case rel=>exact⟨q+1,Ck,Mg,HG,a7,b0⟩
    case measure=>simp[intOf];omega
   | false =>
    have HE:Hid (r=false):=by unfold Hid;rw[<- j];simp
    clear j;go_wp2;go_ret;exact⟨by rw[Ba HE];rfl,a7⟩
  have HE:Hid (r=true):=by unfold Hid;rw[<- Ba p,Brq (by omega:b.length<=q),Hw]
  have kb:¬(q:Int)<(b.length:Int):=Ck;clear p;go_wp2;go_ret;exact⟨by rw[Ba HE];rfl,v⟩
structure FrV where
 la:Option Addr
 ln:Nat
 lc:Nat
 sa:Option Addr
 sn:Nat
 sc:Nat
def FrV.val(v:FrV):Value:=.agg #[.slice v.la v.ln v.lc,.slice v.sa v.sn v.sc]
structure FrV.is(v:FrV)(x:Bf)(w:World):Prop where
 lo:TyR w (.slice v.la v.ln v.lc) x.locals
 st:TyR w (.slice v.sa v.sn v.sc) x.stack
 hl:x.locals.length<=5000
 hs:x.stack.length<=5000
def FrV.is.below{v:FrV}{x:Bf}{w s:TW}(h:v.is x w)(b:Bl w s):v.is x s:=⟨h.lo.below b,h.st.below b,h.hl,h.hs⟩
def Pv(f:RFv)(T:TI)(u v:FrV)(x y:Bf)(w:TW)(hF:f.fitsAs T w)(c:u.is x w)(g:v.is y w):Calls prog 173 #[f.val,u.val,v.val] w fun e i=>e=.r (.bool (Cj T x y))/\Bl w i:=by
 have t:=fun i (h:Bl w i)=>Vn f T x.locals y.locals u.la v.la u.ln u.lc v.ln v.lc i (hF.below h) (c.lo.below h) (g.lo.below h) (by have:=c.hl;omega) (by have:=g.hl;omega);have z:=fun i (h:Bl w i)=>Vn f T x.stack y.stack u.sa v.sa u.sn u.sc v.sn v.sc i (hF.below h) (c.st.below h) (g.st.below h) (by have:=c.hs;omega) (by have:=g.hs;omega);obtain⟨A,-,-⟩:=c.lo.cap;obtain⟨B,-,-⟩:=c.st.cap;obtain⟨C,-,-⟩:=g.lo.cap;obtain⟨D,-,-⟩:=g.st.cap;have F:=c.hl;have b2:=c.hs;have b3:=g.hl;have b4:=g.hs;generalize b:Cj T x y=R;unfold Cj at b;rw[<- A,<- B,<- C,<- D]at b;generalize Ey T x.locals y.locals=P at *;generalize Ey T x.stack y.stack=Q at *;clear hF c g;obtain⟨L,N,O,V,Y,Z⟩:=f;obtain⟨la,l,lc,sa,m,sc⟩:=u;obtain⟨a0,p,a2,a3,q,a4⟩:=v;simp only[RFv.val,FrV.val]at t z b A B C D ⊢;have a7:l<=5000:=Ck;have a8:m<=5000:=Ck;have a9:p<=5000:=Ck;have b0:q<=5000:=Ck;have H1:=Bc t;have H2:=Bc z;have s:=Em w (O11 L N O V Y Z) (O21 la l lc sa m sc) (O21 a0 p a2 a3 q a4);have G:=Nz w (O11 L N O V Y Z) (O21 la l lc sa m sc) (O21 a0 p a2 a3 q a4);clear t z A B C D F b2 b3 b4;by_cases I:m=q
 ·subst I;rw[Pk Hd]at b;by_cases J:l=p
  ·subst J;rw[Pk Hd]at b;have j:=Bc b;clear b;go_in;go_wp2_with fail;refine Qb (Ba H1 _ s) s ?_;intro w1 K a5;have F1:=stay K G.1;have A1:=stay K G.2.1;have B1:=stay K G.2.2;obtain⟨f0,f1⟩:=cl2 F1;have a1:=Bb A1 1;have F:=Bb B1 1;have lF:=Sp F1;have lA:=Sp A1;have lB:=Sp B1;simp at f0 f1 a1 F;go_wp2_with fail;refine Qb (Ba H2 _ a5) a5 ?_;intro w2 b5 a6;cases P with
   | true =>
    go_wp2;go_ret;exact⟨by rw[<- Ba j];rfl,a6⟩
   | false =>
    go_wp2;go_ret;exact⟨by rw[<- Ba j];rfl,a6⟩
  rw[Th J]at b;have j:=Bc b;have b6:((l:Int) != (p:Int))=true:=Fr;clear b J;go_in;go_wp2;go_ret;exact⟨by rw[<- Ba j];rfl,s⟩
 rw[Th I]at b;have j:=Bc b;have b7:((m:Int) != (q:Int))=true:=Fr;clear b I;go_in;go_wp2;go_ret;exact⟨by rw[<- Ba j];rfl,s⟩
def Ei (op:Int):Bool:=decide (op=11\/op=12\/op=13\/op=14)
def Dl (op:Int):Bool:=decide (¬(op=11\/op=22\/op=23))
def Bgy(op:Int)(w:TW):Calls prog 230 #[.i op] w fun e c=>e=.r (.bool (Ei op))/\Bl w c:=by
 unfold Ei;by_cases h:op=11\/op=12\/op=13\/op=14
 ·rcases h with rfl|rfl|rfl|rfl
  all_goals
   go_in;go_wp2;go_ret;exact⟨rfl,Brm _ _⟩
 have f:(op==11)=false:=Fr;have g:(op==12)=false:=Fr;have j:(op==13)=false:=Fr;have l:(op==14)=false:=Fr;have b:decide (op=11\/op=12\/op=13\/op=14)=false:=by simpa using h
 rw[b];clear h b;go_in;go_wp2;go_ret;exact⟨rfl,Brm _ _⟩
def Bat(op:Int)(w:TW):Calls prog 228 #[.i op] w fun e c=>e=.r (.bool (Dl op))/\Bl w c:=by
 unfold Dl;by_cases h:op=11\/op=22\/op=23
 ·rcases h with rfl|rfl|rfl
  all_goals
   go_in;go_wp2;go_ret;exact⟨rfl,Brm _ _⟩
 have f:(op != 11)=true:=Fr;have g:(op != 22)=true:=Fr;have j:(op != 23)=true:=Fr;have b:decide (¬(op=11\/op=22\/op=23))=true:=by simpa using h
 rw[b];clear h b;go_in;go_wp2;go_ret;exact⟨rfl,Brm _ _⟩
def Gc (p:Int):List Rd.Mp->Option Bf
 | []=>none
 | m::r=>if m.place=p then some ⟨m.locals,m.stack⟩ else Gc p r
def Cu (x:Option Bf):Bf:=x.getD ⟨[],[]⟩
def Bgw(m:RMV)(b:List (Rd.Mp×Value×Value))(bb:Nat)(p:Int)(w:TW)(a8:m.ml=b.length)(b6:b.length<=1000)(b3:∀q∈b,q.1.locals.length<=5000/\q.1.stack.length<=5000)(hh:K4 w bb (.s m.ma m.ml m.mc) b):Calls prog 172 #[m.val,.i p] w fun e l=>∃v:FrV,e=.r (.tuple #[v.val,.bool (Gc p (b.map Prod.fst)).isSome])/\v.is (Cu (Gc p (b.map Prod.fst))) l/\Bl w l:=by
 generalize c:Gc p (b.map Prod.fst)=r;have j:Hid (Gc p ((b.map Prod.fst).drop 0)=r):=c;obtain⟨A,B,C,D,F,G,I,J,K,L,N,O,Q,V,ml,z,Y,Z⟩:=m;simp only[RMV.val]at a8 hh ⊢;subst a8;have a9:Hid (∀l,Bl w l->K4 l bb (.s V b.length z) b):=fun l h=>hh.kp (Kp.of_below (e:=none) h) Fm Fm;clear c hh;have b4:=Bu w (O12 A B C D F G I J K L N O Q V b.length z Y Z) (O21 none 0 0 none 0 0);have C0:=Cb w (O12 A B C D F G I J K L N O Q V b.length z Y Z) (O21 none 0 0 none 0 0);have D0:=Bx w (O12 A B C D F G I J K L N O Q V b.length z Y Z) (O21 none 0 0 none 0 0);go_in;go_wp2
 go_loopw [6] (fun i wr=>∃q:Nat,q<=b.length/\i=.i (q:Int)/\Hid (Gc p ((b.map Prod.fst).drop q)=r)/\wr=(w.alloc (O12 A B C D F G I J K L N O Q V b.length z Y Z)).alloc (O21 none 0 0 none 0 0))
  (fun i _=>b.length-(intOf i).toNat)
 case atStart=>exact⟨0,Ck,rfl,j,rfl⟩
 case round=>
  clear j;obtain⟨q,hq,rfl,j,rfl⟩:=hrel;by_cases f:q<b.length
  ·have b0:=Ba a9 _ b4;obtain⟨g,hg,b7,_,a4⟩:=Cf b0.1 Ck;have y0:=(a4 _ (Eh b q f 0 Ck).2).trans (Eh b q f 0 Ck).1;have y1:=(a4 _ (Eh b q f 1 Ck).2).trans (Eh b q f 1 Ck).1;have y2:=(a4 _ (Eh b q f 2 Ck).2).trans (Eh b q f 2 Ck).1;have b1:=(Ba a9 _ (Brm _ _)).2 _ (Brn f);have a7:=b3 _ (Brn f);have hd:(b.map Prod.fst).drop q=b[q].1::(b.map Prod.fst).drop (q+1):=by
    rw[Brj (by simpa using f)];simp
   have c:=Ba j;rw[hd,Gc]at c;generalize b[q]=t at *;obtain⟨⟨b2,a0,a3⟩,u1,u2⟩:=t;simp at y0 y1 y2;simp only at b1 c a7;obtain⟨a5,a6⟩:=b1;obtain⟨a1,c1,rfl⟩:=Bh a5;obtain⟨a2,c2,rfl⟩:=Bh a6;have kb:(q:Int)<(b.length:Int):=Ck;clear a4 hd j b0;subst hg;by_cases he:b2=p
   ·subst he;rw[Th rfl]at c;have HE:=Bc c;have b5:FrV.is ⟨a1,a0.length,c1,a2,a3.length,c2⟩ ⟨a0,a3⟩ ((w.alloc (O12 A B C D F G I J K L N O Q (.p g) b.length z Y Z)).alloc (O21 a1 a0.length c1 a2 a3.length c2)) :=
     ⟨(TyR.of_tys a5).below (Bu _ _ _),(TyR.of_tys a6).below (Bu _ _ _),a7.1,a7.2⟩
    clear c a5 a6;go_wp2_with fail;refine tb (.tuple #[.agg #[.s a1 a0.length c1,.s a2 a3.length c2],.bool true]) (by simp[results,results172,go_sem]) ?_;refine⟨⟨a1,a0.length,c1,a2,a3.length,c2⟩,?_,?_,Bu _ _ _⟩
    ·rw[<- Ba HE];rfl
    rw[<- Ba HE];exact b5
   rw[Pk he]at c;have HG:=Bc c;have b8:(b2==p)=false:=by simpa using he
   clear c he a5 a6;go_wp2;go_roundw
   case rel=>exact⟨q+1,Ck,Mg,HG,trivial⟩
   case measure=>simp[intOf];omega
  have HE:Hid (none=r):=by unfold Hid;rw[<- Ba j,Brq Fr];rfl
  have kb:¬(q:Int)<(b.length:Int):=Ck;clear j;go_wp2_with fail;refine tb (.tuple #[.agg #[.s none 0 0,.s none 0 0],.bool false]) (by simp[results,results172,go_sem]) ?_;refine⟨⟨none,0,0,none,0,0⟩,?_,?_,Bu _ _ _⟩
  ·rw[<- Ba HE];rfl
  rw[<- Ba HE];exact⟨TyR.nil _,TyR.nil _,Bsb _,Bsb _⟩
def Iy (cl:Int)(ps:TP):List (Int × Int):=(if cl=255 then [] else [(3,cl)])++ps
def Lg (cl:Int)(ps:TP)(lo:Nat):Bf:=⟨Iy cl ps++List.replicate (lo-(Iy cl ps).length) (0,0),[]⟩
def Bgu(m:RMV)(c:TP)(f:Nat)(w:TW)(d1:m.lo=(f:Int))(f0:f<=1000)(b4:TyR w (.s m.pa m.pl m.pc) c)(f1:c.length<=1000):Calls prog 174 #[m.val] w fun e w'=>∃v:FrV,e=.returned v.val/\v.is (Lg m.cl c f) w'/\Bl w w':=by
 obtain⟨i0,hi,b5,b6,b7⟩:=Bsa Tryz.infoType;obtain⟨h,Z,G,I,J,r1,r2,lo,st,a0,ha,hl,hc,ma,ml,mc,a1,a2⟩:=m;simp only[RMV.val]at d1 b4 ⊢;subst d1;have d2:=fun w=>Lb h w;have d6:=Bc d2;clear d2;have a3:=Bu w (O12 h Z G I J r1 r2 (f:Int) st a0 ha hl hc ma ml mc a1 a2) (O21 none 0 0 none 0 0);have C0:=Cb w (O12 h Z G I J r1 r2 (f:Int) st a0 ha hl hc ma ml mc a1 a2) (O21 none 0 0 none 0 0);have D0:=Bx w (O12 h Z G I J r1 r2 (f:Int) st a0 ha hl hc ma ml mc a1 a2) (O21 none 0 0 none 0 0);unfold Lg;generalize Y:Iy h c=O;unfold Iy at Y
 -- what follows the head, for either head
 by_cases h1:h=255
 ·subst h1;rw[Th rfl,Btz]at Y;subst Y;go_in;go_wp2_with (at_builtin;refine Jo rfl _ _ rfl (w.heap.size+1+1) _ [] c G I J rfl (Brw _ _ _ _) rfl (b4.below a3) Fr Hd ?_)
  intro v' w1 a4 A;have K:=a3.grown A Fr (fun j B=>by simp[Value.ownBlock]at B);have C1:=(A.block _ (Sp C0) (by simp[Value.ownBlock])).trans C0;have D1:=(A.block _ (Sp D0) (by simp[Value.ownBlock])).trans D0;clear A C0 D0 a3;have b8:=K.size;have a5:w1.ownsRow (w.heap.size+1+1) 31 2 v' (c++List.replicate 0 ((0:Int),(0:Int))).length (Bp (c++List.replicate 0 ((0:Int),(0:Int)))):=by simpa using a4
  go_wp2
  go_loopw [3] (fun v wr=>∃q:Nat,q<=f-c.length/\wr.ownsRow (w.heap.size+1+1) 31 2 v (c.length+q) (Bp (c++List.replicate q ((0:Int),(0:Int))))/\Bl w wr/\wr.heap[w.heap.size]?=some (O12 255 Z G I J r1 r2 (f:Int) st a0 ha hl hc ma ml mc a1 a2)/\wr.heap[w.heap.size+1]?=some (O21 none 0 0 none 0 0))
   (fun v _=>f-lenOf v)
  case atStart=>exact⟨0,Ck,by simpa using a5,K,C1,D1⟩
  case round=>
   clear a4 a5 K C1 D1 b8;obtain⟨q,hq,l,C,t,p⟩:=hrel;have b9:=C.size;have lC:=Sp t;have lD:=Sp p;obtain⟨L,N,rfl⟩:=Bh l;have x5:=Bb t 5;simp at x5;by_cases d7:c.length+q<f
   ·have kb:((c.length+q:Nat):Int)<(f:Int):=Ck;have HD:Hid (c++List.replicate (q+1) ((0:Int),(0:Int))=c++List.replicate q ((0:Int),(0:Int))++[((0:Int),(0:Int))]):=by unfold Hid;rw[Bue,Bsi]
    go_wp2_with (at_builtin;refine Br3 _ rfl _ _ 105 rfl (w.heap.size+1+1) 31 i0 _ 2 16 Bsk hi b5 b6 b7 rfl Fm _ _ _ rfl (l.alloc _) ⟨wr.heap.size,0,none⟩ 1 1 [.i 0,.i 0] rfl rfl ?c1 ?c2 ?c3 ?c4 ?c5 ?_)
    case c1=>exact Dh _ _ _ _ rfl
    case c2=>intro u F;simp at F;subst F;rfl
    case c3=>unfold maxLen;omega
    case c4=>omega
    case c5=>simp;omega
    intro v2 w2 Q D _;have c0:=(C.alloc b9 (O7 0 0)).grown D Fr (fun j B=>by have:=(l.lt j B).1;omega);have C2:=(D.block _ (Sp (Bg t (O7 0 0))) (fun z=>by have:=(l.lt _ z.symm).1;omega)).trans (Bg t (O7 0 0));have D2:=(D.block _ (Sp (Bg p (O7 0 0))) (fun z=>by have:=(l.lt _ z.symm).1;omega)).trans (Bg p (O7 0 0));obtain⟨c6,c7,rfl⟩:=Bh Q;have V:w2.ownsRow (w.heap.size+1+1) 31 2 (.s c6 (c.length+q+1) c7) (c.length+(q+1)) (Bp (c++List.replicate (q+1) ((0:Int),(0:Int)))):=by rw[Ba HD,Ib];exact Q
    clear D l Q C t p x5;go_wp2;go_roundw
    case rel=>exact⟨q+1,Ck,V,c0,C2,D2⟩
    case measure=>simp[lenOf];omega
   have kb:¬((c.length+q:Nat):Int)<(f:Int):=Ck;have eq:f-c.length=q:=Ck;obtain⟨z0,z1⟩:=cl2 p;obtain⟨q0,q1⟩:=fr2 p;simp at z0 z1;have c8:=(Kp.set_lo (e:=none) (b:=w.heap.size+1+1) (i:=0) (g:=w.heap.size+1) (w:=wr) Ck (.s L (c.length+q) N)).trans (Kp.set_lo (i:=1) (g:=w.heap.size+1) Ck (.s none 0 0));have V:=Dc l c8 Fm;have a6:=Bc eq;clear eq;go_wp2_with fail;refine tb (.agg #[.s L (c.length+q) N,.s none 0 0]) (by simp[results,results174,go_sem,z0,z1]) ?_;refine⟨⟨L,c.length+q,N,none,0,0⟩,rfl,⟨?_,TyR.nil _,?_,Bsb _⟩,(C.setCell Hd _).setCell Hd _⟩
   ·rw[Ba a6];exact Gw V Hd
   rw[Ba a6];simp;omega
 have f2:(h != 255)=true:=by simpa using h1
 rw[Pk h1]at Y;clear h1;go_in;go_wp2_with fail;refine Qb (Ba d6 _) a3 ?_;intro w0 c9 d0;have a7:=stay c9 C0;have b0:=stay c9 D0;have d8:=d0.size;have f3:=Sp b0;have x2:=Bb a7 2;have f4:=Sp a7;simp at x2;go_wp2_with (at_builtin;refine Br3 _ rfl _ _ 105 rfl (w.heap.size+1+1) 31 i0 _ 2 16 Bsk hi b5 b6 b7 rfl Fm _ _ _ rfl (Brw _ _ _ _) ⟨w0.heap.size,0,none⟩ 1 1 [.i 3,.i h] rfl rfl ?c1 ?c2 ?c3 ?c4 ?c5 ?_)
 case c1=>exact Dh _ _ _ _ rfl
 case c2=>intro u F;simp at F;rcases F with rfl|rfl<;>rfl
 case c3=>unfold maxLen;omega
 case c4=>omega
 case c5=>simp;omega
 intro v0 d9 d3 b1 _;have b2:=(d0.alloc d8 (O7 3 h)).grown b1 Fr (fun j B=>by simp[Value.ownBlock]at B);have a8:=(b1.block _ (Sp (Bg a7 (O7 3 h))) (by simp[Value.ownBlock])).trans (Bg a7 (O7 3 h));have b3:=(b1.block _ (Sp (Bg b0 (O7 3 h))) (by simp[Value.ownBlock])).trans (Bg b0 (O7 3 h));have a9:d9.ownsRow (w.heap.size+1+1) 31 2 v0 ([((3:Int),h)]:TP).length (Bp [((3:Int),h)]):=by simpa[Bp] using d3
 have f5:=b2.size;have f6:=Sp b3;have f7:=Sp a8;have d4:=Bb a8 2;simp at d4;clear b1 d3 C0 D0 a3 c9 a7 b0 d0 x2;go_wp2_with (at_builtin;refine Jo rfl _ _ rfl (w.heap.size+1+1) _ [(3,h)] c G I J rfl a9 rfl (b4.below b2) Fr Ck ?_)
 intro v' w1 a4 A;have K:=b2.grown A Ck (fun j B=>by have:=(a9.lt j B).1;omega);have C1:=(A.block _ (Sp a8) (fun z=>by have:=(a9.lt _ z.symm).1;omega)).trans a8;have D1:=(A.block _ (Sp b3) (fun z=>by have:=(a9.lt _ z.symm).1;omega)).trans b3;have d5:([((3:Int),h)]++c).length<=1001:=Fr;have a5:w1.ownsRow (w.heap.size+1+1) 31 2 v' O.length (Bp O):=a4;rw[Y]at d5;have f8:=d5;clear A a8 b3 b2 a9 a4 Y d4;have b8:=K.size;go_wp2
 go_loopw [3] (fun v wr=>∃q:Nat,q<=f-O.length/\wr.ownsRow (w.heap.size+1+1) 31 2 v (O.length+q) (Bp (O++List.replicate q ((0:Int),(0:Int))))/\Bl w wr/\wr.heap[w.heap.size]?=some (O12 h Z G I J r1 r2 (f:Int) st a0 ha hl hc ma ml mc a1 a2)/\wr.heap[w.heap.size+1]?=some (O21 none 0 0 none 0 0))
  (fun v _=>f-lenOf v)
 case atStart=>exact⟨0,Ck,by simpa using a5,K,C1,D1⟩
 case round=>
  clear a5 K C1 D1 b8;obtain⟨q,hq,l,C,t,p⟩:=hrel;have b9:=C.size;have lC:=Sp t;have lD:=Sp p;obtain⟨L,N,rfl⟩:=Bh l;have x5:=Bb t 5;simp at x5;by_cases d7:O.length+q<f
  ·have kb:((O.length+q:Nat):Int)<(f:Int):=Ck;have HD:Hid (O++List.replicate (q+1) ((0:Int),(0:Int))=O++List.replicate q ((0:Int),(0:Int))++[((0:Int),(0:Int))]):=by unfold Hid;rw[Bue,Bsi]
   go_wp2_with (at_builtin;refine Br3 _ rfl _ _ 105 rfl (w.heap.size+1+1) 31 i0 _ 2 16 Bsk hi b5 b6 b7 rfl Fm _ _ _ rfl (l.alloc _) ⟨wr.heap.size,0,none⟩ 1 1 [.i 0,.i 0] rfl rfl ?c1 ?c2 ?c3 ?c4 ?c5 ?_)
   case c1=>exact Dh _ _ _ _ rfl
   case c2=>intro u F;simp at F;subst F;rfl
   case c3=>unfold maxLen;omega
   case c4=>omega
   case c5=>simp;omega
   intro v2 w2 Q D _;have c0:=(C.alloc b9 (O7 0 0)).grown D Fr (fun j B=>by have:=(l.lt j B).1;omega);have C2:=(D.block _ (Sp (Bg t (O7 0 0))) (fun z=>by have:=(l.lt _ z.symm).1;omega)).trans (Bg t (O7 0 0));have D2:=(D.block _ (Sp (Bg p (O7 0 0))) (fun z=>by have:=(l.lt _ z.symm).1;omega)).trans (Bg p (O7 0 0));obtain⟨c6,c7,rfl⟩:=Bh Q;have V:w2.ownsRow (w.heap.size+1+1) 31 2 (.s c6 (O.length+q+1) c7) (O.length+(q+1)) (Bp (O++List.replicate (q+1) ((0:Int),(0:Int)))):=by rw[Ba HD,Ib];exact Q
   clear D l Q C t p x5;go_wp2;go_roundw
   case rel=>exact⟨q+1,Ck,V,c0,C2,D2⟩
   case measure=>simp[lenOf];omega
  have kb:¬((O.length+q:Nat):Int)<(f:Int):=Ck;have eq:f-O.length=q:=Ck;obtain⟨z0,z1⟩:=cl2 p;obtain⟨q0,q1⟩:=fr2 p;simp at z0 z1;have c8:=(Kp.set_lo (e:=none) (b:=w.heap.size+1+1) (i:=0) (g:=w.heap.size+1) (w:=wr) Ck (.s L (O.length+q) N)).trans (Kp.set_lo (i:=1) (g:=w.heap.size+1) Ck (.s none 0 0));have V:=Dc l c8 Fm;have a6:=Bc eq;clear eq;go_wp2_with fail;refine tb (.agg #[.s L (O.length+q) N,.s none 0 0]) (by simp[results,results174,go_sem,z0,z1]) ?_;refine⟨⟨L,O.length+q,N,none,0,0⟩,rfl,⟨?_,TyR.nil _,?_,Bsb _⟩,(C.setCell Hd _).setCell Hd _⟩
  ·rw[Ba a6];exact Gw V Hd
  rw[Ba a6];simp;omega
end Go.Proofs.YtpcgnjolfahacaaGreat
