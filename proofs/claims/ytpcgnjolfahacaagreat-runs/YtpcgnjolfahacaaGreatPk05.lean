/- the proof's parts -/
import Derived.Test.YtpcgnjolfahacaaGreatPk04
set_option maxRecDepth 100000
set_option maxHeartbeats 40000000
set_option linter.unusedVariables false
set_option linter.unusedSimpArgs false
set_option linter.defProp false
namespace Go.Proofs.YtpcgnjolfahacaaGreat
open Go.RowKit Go.Proofs.Tryz
def D7 (T:TI)(F:List Rf.Fld)(ms:List Rd.Mth)(want:Int->TP)(arg:Int->Int)(res:Int × Int)(p op n:Int)(x:Bf):Option Bf :=
 if op=2 then (if (x.locals.getD n.toNat (0,0)).1=0 then none else some ⟨x.locals,x.stack++[x.locals.getD n.toNat (0,0)]⟩)
 else if op=3 then (if x.stack.length<1 then none else some ⟨x.locals.set n.toNat (x.stack.getD (x.stack.length-1) (0,0)),x.stack.take (x.stack.length-1)⟩)
 else if op=4 then (if x.stack.length<1 then none else some ⟨x.locals,x.stack.take (x.stack.length-1)⟩)
 else if op=5 then (if x.stack.length<1 then none else some ⟨x.locals,x.stack++x.stack.drop (x.stack.length-1)⟩)
 else if op=6 then (if x.stack.length<2 then none else some ⟨x.locals,x.stack.take (x.stack.length-2)++[x.stack.getD (x.stack.length-1) (0,0),x.stack.getD (x.stack.length-2) (0,0)]⟩)
 else if op=15 then some ⟨Ci (4,p) (0,0) x.locals,Ci (4,p) (0,0) x.stack++[(4,p)]⟩
 else if op=16 then Ns T (want n) arg n x
 else if Ey T x.stack (Co F ms res op n)=false then none
 else some ⟨x.locals,x.stack.take (x.stack.length-(Co F ms res op n).length)++Dp F ms op n⟩
def Vj(l:TP)(q:Nat)(b c:Int):Bp (l.set q (b,c))=((Bp l).set (q*2) (.i b)).set (q*2+1) (.i c):=by
 induction l generalizing q with
 | nil=>simp[Bp]
 | cons x r ih =>
  have e:∀(y:Int×Int) (s:TP),Bp (y::s)=.i y.1::.i y.2::Bp s:=fun y s=>by simp[Bp]
  cases q with
  | zero=>rw[Bvs,e,e];rfl
  | succ j=>rw[Bsp,e,e,ih,show (j+1)*2=j*2+1+1 by omega];rfl
def Sm{w:TW}{u:Nat}{a:TA}{n t:Nat}{q:TP}(h:Cq w u (.s a n t) q){O:Nat}(B:O<q.length)(j m:Int):∃g,a=some ⟨g,0,none⟩/\g<w.heap.size/\u<=g/\w.C g (O*2) (.i q[O].1)/\w.C g (O*2+1) (.i q[O].2)/\w.frozen? (.a g (O*2))=false/\w.frozen? (.a g (O*2+1))=false/\Cq ((w.setCell (.a g (O*2)) (.i j)).setCell (.a g (O*2+1)) (.i m)) u (.s a n t) (q.set O (j,m)):=by
 obtain⟨K,L,p,_,D⟩:=(TyR.of_tys h).at Ck;obtain⟨N,⟨f,Q⟩|⟨g,V,Y,f,v,e,F,G,I,J⟩⟩:=h
 ·omega
 simp only[Value.slice.injEq]at f;obtain⟨rfl,rfl,rfl⟩:=f;simp only[Option.some.injEq,Addr.mk.injEq]at p;obtain⟨rfl,rfl,-⟩:=p;obtain⟨z,A⟩:=D O B;simp only[Brz]at z A;refine⟨g,rfl,Sp e,v,z,A,Bk e _,Bk e _,?_⟩;refine⟨by rw[Jm],.inr ⟨g,t,_,by rw[Bsl],v,Bt (Bt e _) _,by rw[Bsl];exact F,G,by simpa using I,?_⟩⟩;rw[Bsl,Vj,<- J];simp only[Bux];rw[Bvy,Bvy]
def TyR.addr{w:TW}{a:TA}{n b:Nat}{q:TP}(h:TyR w (.s a n b) q):(a=none/\b=0)\/∃g o,a=some ⟨g,o,none⟩:=by
 rcases h with ⟨e,-⟩|⟨g,o,i,j,f,-⟩
 ·simp only[Value.slice.injEq]at e;exact .inl ⟨e.1,e.2.2⟩
 simp only[Value.slice.injEq]at f;exact .inr ⟨g,o,f.1⟩
def TyR.set_frame{w:TW}{l:TX}{q:TP}{u:Nat}{g J:TA}{b t O K:Nat}{ty:TypeId}(h:TyR w l q)(A:w.heap[u]?=some (.cells #[.s g b t,.s J O K] ty (0,0)))(s f:TX):TyR ((w.setCell (.a u 0) s).setCell (.a u 1) f) l q:=by
 rcases h with h|⟨m,o,c,L,N,D,Q,V,F⟩
 ·exact .inl h
 obtain⟨B,Y⟩:∃B,((w.setCell (.a u 0) s).setCell (.a u 1) f).heap[m]?=some (.cells B 31 (0,0)):=by
  by_cases e:m=u;·subst e;have G:=D.symm.trans A;simp only[Option.some.injEq,Obj.cells.injEq]at G;obtain⟨_,rfl,_⟩:=G;exact⟨_,Bt (Bt A s) f⟩
  exact⟨L,((Brk _ _ _ _ (by simpa using e)).trans (Brk _ _ _ _ (by simpa using e))).trans D⟩
 refine .inr ⟨m,o,c,B,N,Y,Q,V,fun j x C=>?_⟩;have I:m≠u:=by
  intro e;subst e;have p:=F j x C;rw[Bb A]at p;have Z:∃k,x=Value.int .i64 k:=by
   have:=Bs6 C;simp only[Bp,List.mem_flatMap,Bub,Buh,Bv8]at this;obtain⟨y,_,rfl|rfl⟩:=this<;>exact⟨_,rfl⟩
  obtain⟨k,rfl⟩:=Z;generalize o+j=i at p
  match i,p with
  | 0,p=>simp at p
  | 1,p=>simp at p
  | i+2,p=>simp at p
 rw[Bu2 _ _ _ _ (by intro e;exact I (congrArg Addr.block e).symm),Bu2 _ _ _ _ (by intro e;exact I (congrArg Addr.block e).symm)];exact F j x C
def Bi4(F:List Rf.Fld)(b:List Rd.Mth)(e:∀m∈b,m.params.length<=1000)(c:Int×Int)(op n:Int):(Co F b c op n).length<=1001:=by
 have f:(b.getD n.toNat ⟨0,0,[],(0,0),0,0,[],[],[]⟩).params.length<=1000:=by
  rw[Vm];by_cases h:n.toNat<b.length;·rw[Brl h];exact e _ (Brn h)
  rw[Bs3 Ck];simp
 have g:(Ds c).length<=1:=by unfold Ds;split<;>simp
 unfold Co
 split
 ·simp
 split
 ·simp
 split
 ·simp
 split
 ·simp
 split
 ·simp
 split
 ·omega
 split
 ·simp only[Br7];omega
 split
 ·omega
 split<;>simp
def Zy(F:List Rf.Fld)(c:List Rd.Mth)(op n:Int):(Dp F c op n).length<=1:=by
 have e:∀b,(Ds b).length<=1:=fun b=>by unfold Ds;split<;>simp
 unfold Dp
 split
 ·simp
 split
 ·simp
 split
 ·simp
 split
 ·simp
 split
 ·exact e _
 simp
def Bgv(f:RFl)(m:RMV)(p:Nat)(v:FrV)(x:Bf)(w:TW)(hf:f.ok w)(hp:p<m.code.size)(hs:m.code.size<=100000)(hv:v.is x w)(p3:x.locals.length<=1000)(p4:x.stack.length<=1000) (k8:∀t∈x.stack,t.1=4->0<=t.2/\t.2<(m.code.size:Int))(g7:∀x∈f.ms,x.1.m.params.length<=1000) (i8:(Ca m.code).getD p 0=17\/(Ca m.code).getD p 0=18->0<=Rf.at' m.code.data.toList ((p:Int)+1)/\Rf.at' m.code.data.toList ((p:Int)+1)<(f.fields.length:Int)) (i9:(Ca m.code).getD p 0=20\/(Ca m.code).getD p 0=21->0<=Rf.at' m.code.data.toList ((p:Int)+1)/\Rf.at' m.code.data.toList ((p:Int)+1)<(f.ms.length:Int)) (g8:(Ca m.code).getD p 0=2\/(Ca m.code).getD p 0=3->0<=Rf.at' m.code.data.toList ((p:Int)+1)/\Rf.at' m.code.data.toList ((p:Int)+1)<(x.locals.length:Int)) (g9:(Ca m.code).getD p 0=16->0<=Rf.at' m.code.data.toList ((p:Int)+1)/\Rf.at' m.code.data.toList ((p:Int)+1)<(f.l.length:Int)):Calls prog 275 #[f.val,m.val,.i (p:Int),v.val] w fun e A => ∃u:FrV,e=.r (.tuple #[u.val,.bool (D7 f.T f.fields (f.ms.map fun x=>x.1.m) (fun c=>Rf.all f.T (f.l.map Prod.fst) c.toNat) (fun q=>Rf.at' m.code.data.toList (q+1)) (m.r1,m.r2) (p:Int) ((Ca m.code).getD p 0) (Rf.at' m.code.data.toList ((p:Int)+1)) x).isSome])/\(∀y,D7 f.T f.fields (f.ms.map fun x=>x.1.m) (fun c=>Rf.all f.T (f.l.map Prod.fst) c.toNat) (fun q=>Rf.at' m.code.data.toList (q+1)) (m.r1,m.r2) (p:Int) ((Ca m.code).getD p 0) (Rf.at' m.code.data.toList ((p:Int)+1)) x=some y->u.is y A)/\Bl w A:=by
 have h0:=fun A (h:Bl w A)=>Zg f m p A (hf.below h) hp hs g7 i8 i9;have h1:=fun A (h:Bl w A)=>Bep f m p A (hf.below h) hp hs g7 i8 i9;have j0:=fun (c:Nat) A (h:Bl w A) hc=>Bl5 f m c v x A (hf.below h) hc hs (hv.below h) p3 p4 k8;have j1:=fun p5 a2 n2 c2 A (h:Bl w A) h2 hw=>Vn f.v f.T x.stack p5 v.sa a2 v.sn v.sc n2 c2 A (RFl.fitsAs (hf.below h)) (hv.st.below h) h2 Ck hw;rw[Kq _ _ hp]at g8 g9 h0 h1 ⊢;have j2:(Co f.fields (f.ms.map fun x=>x.1.m) (m.r1,m.r2) (m.code[p].toNat:Int) (Rf.at' m.code.data.toList ((p:Int)+1))).length<=1001:=Bi4 _ _ (by intro y Q;obtain⟨z,hz,rfl⟩:=List.mem_map.1 Q;exact g7 z hz) _ _ _;have j3:(Dp f.fields (f.ms.map fun x=>x.1.m) (m.code[p].toNat:Int) (Rf.at' m.code.data.toList ((p:Int)+1))).length<=1:=Zy _ _ _ _;have j4:=fun w=>Mz m p w hp hs;have e1:=hv.lo.cap.1;have e2:=hv.st.cap.1;have p6:=hv.st.cap.2.1;have d5:=hv.lo;have c3:=hv.st;generalize a3:D7 f.T f.fields (f.ms.map fun x=>x.1.m) (fun c=>Rf.all f.T (f.l.map Prod.fst) c.toNat) (fun q=>Rf.at' m.code.data.toList (q+1)) (m.r1,m.r2) (p:Int) (m.code[p].toNat:Int) (Rf.at' m.code.data.toList ((p:Int)+1)) x=R;generalize Rf.at' m.code.data.toList ((p:Int)+1)=n at *;have p7:(p:Int)<(m.code.size:Int):=Ck;have r9:∀c:UInt8,IntKind.i64.wrap (c.toNat:Int)=(c.toNat:Int):=fun c=>Cx _ Ck (by have:=c.toNat_lt;omega);clear hf hv i8 i9 g7 k8;obtain⟨d7,d8,d9,f2,bb,l,ms⟩:=f;obtain⟨cl,nm,pa,pl,pc,r1,r2,lo,st,b2,ha,hl,hc,ma,ml,mc,k9,l0⟩:=m;obtain⟨N,ln,G,sa,sn,J⟩:=v;simp only[RMV.val,RFl.val,RFl.v,RFv.val,FrV.val]at h0 h1 j0 j1 j2 j3 j4 e1 e2 p6 d5 c3 g8 g9 a3 hp p7 hs ⊢;subst e1 e2;have p8:=Bc j2;have p9:=Bc j3;have h3:=Bc h0;have h4:=Bc h1;have l1:=Bc j0;have l2:=Bc j1;have q2:=Bc j4;have l3:=Bc g8;have q3:=Bc g9;clear h0 h1 j0 j1 j4 g8 g9 j2 j3;have l4:=U9 w (O11 d7 l.length d8 d9 ms.length f2) (O12 cl nm pa pl pc r1 r2 lo st b2 ha hl hc ma ml mc k9 l0) (O21 N x.locals.length G sa x.stack.length J) (O21 none 0 0 none 0 0);obtain⟨F0,M0,X0,Z0⟩:=Ai w (O11 d7 l.length d8 d9 ms.length f2) (O12 cl nm pa pl pc r1 r2 lo st b2 ha hl hc ma ml mc k9 l0) (O21 N x.locals.length G sa x.stack.length J) (O21 none 0 0 none 0 0);go_in;go_wp2_with fail;refine Qb (Ba q2 _) l4 ?_;intro F g2 a5;have f3:=a5.size;have F1:=stay g2 F0;have M1:=stay g2 M0;have X1:=stay g2 X0;have Z1:=stay g2 Z0;obtain⟨f0,f1⟩:=cl2 F1;obtain⟨x0,x1⟩:=cl2 X1;obtain⟨z0,z1⟩:=cl2 Z1;obtain⟨q0,q1⟩:=fr2 Z1;have lF:=Sp F1;have lM:=Sp M1;have lX:=Sp X1;have lZ:=Sp Z1;obtain⟨m0,m1,m2,m3,m4,m5,m6,m7,m8,m9,b8,b9⟩:=El M1;simp at f0 f1 x0 x1 z0 z1 m0 m1 m2 m3 m4 m5 m6 m7 m8 m9 b8 b9;clear g2 F0 M0 X0 Z0 l4;by_cases V:(b2[p].toNat:Int)=2
 ·have hq:=Ba l3 (by rw[V];simp);obtain⟨q,rfl⟩:=Brp hq.1;have g0:q<x.locals.length:=Ck;have q4:(q:Int)<(x.locals.length:Int):=Ck;obtain⟨gl,ol,rfl,h5,c4⟩:=d5.at Ck;obtain⟨s0,s1⟩:=c4 q g0;have d1:x.locals.getD q (0,0)=x.locals[q]:=by simp[Vm,g0]
  have c7:R=(if (x.locals[q]).1=0 then none else some ⟨x.locals,x.stack++[x.locals[q]]⟩):=by rw[<- a3];unfold D7;rw[V];simp[-List.getD_eq_getElem?_getD,d1]
  generalize x.locals[q]=tt at *;obtain⟨B,D⟩:=tt;simp only at s0 s1 c7;have S0:Hid (∀A,Bl w A->A.C gl (ol+q*2) (.i B)/\A.C gl (ol+q*2+1) (.i D)/\gl<A.heap.size):=fun A h=>⟨(h.cell h5).trans s0,(h.cell h5).trans s1,Brs h5 h.size⟩;clear s0 s1 c4 d1 h5 a3;obtain⟨b,s4,l5⟩:∃b,(B != 0)=b/\R=(if b=true then some ⟨x.locals,x.stack++[(B,D)]⟩ else none):=⟨_,rfl,by rw[c7];by_cases ht:B=0<;>simp[ht]⟩
  have HE:=Bc l5;clear c7 l5;have tA:=Be F (O7 B D);have h6:=Bg Z1 (O7 B D);have j5:=Bg X1 (O7 B D);have a6:(F.alloc (O7 B D)).C (w.heap.size+1+1) 0 (.s (some ⟨gl,ol,none⟩) x.locals.length G):=(Bb j5 0).trans rfl;have a7:(F.alloc (O7 B D)).C (w.heap.size+1+1) 1 (.s sa x.stack.length J):=(Bb j5 1).trans rfl;have a9:w.heap.size+1+1<(F.alloc (O7 B D)).drew.heap.size:=Sp j5;have h7:(F.alloc (O7 B D)).C F.heap.size 0 (.i B):=(Bb tA 0).trans rfl;have h8:(F.alloc (O7 B D)).C F.heap.size 1 (.i D):=(Bb tA 1).trans rfl;have g1:F.heap.size<(F.alloc (O7 B D)).drew.heap.size:=Sp tA;obtain⟨s0,s1,s5⟩:=Ba S0 _ a5;have b4:Bl w ((F.alloc (O7 B D)).alloc (O7 B D)).drew:=((a5.alloc f3 _).alloc Fr _).drew;have ZA:((F.alloc (O7 B D)).alloc (O7 B D)).drew.heap[w.heap.size+1+1+1]?=some (O21 none 0 0 none 0 0):=Bg h6 (O7 B D);have f4:TyR ((F.alloc (O7 B D)).alloc (O7 B D)).drew (.s (.p ((F.alloc (O7 B D)).heap.size)) 1 1) [(B,D)]:=(TyR.new1 (F.alloc (O7 B D)) B D).below (Brm _ _).drew;have b0:Calls prog 296 #[.s sa x.stack.length J,.s (.p (F.heap.size+1)) 1 1] ((F.alloc (O7 B D)).alloc (O7 B D)).drew fun e A =>
    ∃a c,e=.r (.s a (x.stack.length+1) c)/\Cq A ((F.alloc (O7 B D)).alloc (O7 B D)).drew.heap.size (.s a (x.stack.length+1) c) (x.stack++[(B,D)])/\Bl ((F.alloc (O7 B D)).alloc (O7 B D)).drew A:=by
   have h:=My (x.stack) ([(B,D)]) sa (.p (F.heap.size+1)) x.stack.length J 1 1 ((F.alloc (O7 B D)).alloc (O7 B D)).drew (c3.below b4) (by simpa using f4) Fr;simpa using h
  have c8:=Bc b0;clear b0;clear f4;go_wp2
  go_region_held3 (fun A=>A.C (w.heap.size+1+1) 0 (.s (some ⟨gl,ol,none⟩) x.locals.length G)/\A.C (w.heap.size+1+1) 1 (.s sa x.stack.length J)/\A.C F.heap.size 0 (.i B)/\A.C F.heap.size 1 (.i D))
   (first|exact⟨a6,a7,h7,h8⟩|exact⟨QA a9 a6,QA a9 a7,QA g1 h7,QA g1 h8⟩|exact⟨QC I Bd (QA a9 a6),QC I Bd (QA a9 a7),QC I Bd (QA g1 h7),QC I Bd (QA g1 h8)⟩|exact⟨(Brt _ _ _ _ Bd).trans ((Brt _ _ _ _ Bd).trans (QC I Bd (QA a9 a6))),(Brt _ _ _ _ Bd).trans ((Brt _ _ _ _ Bd).trans (QC I Bd (QA a9 a7))),(Brt _ _ _ _ Bd).trans ((Brt _ _ _ _ Bd).trans (QC I Bd (QA g1 h7))),(Brt _ _ _ _ Bd).trans ((Brt _ _ _ _ Bd).trans (QC I Bd (QA g1 h8)))⟩)
   (first|(go_at_call 296;refine(Ba c8).mono ?_;rintro e w7 ⟨Z,uc,rfl,d3,I⟩;have Z7:=stay I ZA;have b5:=Bb Z7 0;have b6:=Bb Z7 1;have g3:=Bk Z7 0;have g4:=Bk Z7 1;simp at b5 b6))
  have d4:=QB b4 I;have lb:=Sp ZA;have c9:=(Kp.set_lo (e:=none) (i:=0) (g:=w.heap.size+1+1+1) (w:=w7) lb (.s (some ⟨gl,ol,none⟩) x.locals.length G)).trans (Kp.set_lo (i:=1) (g:=w.heap.size+1+1+1) lb (.s Z (x.stack.length+1) uc));have d0:=Cq.kp d3 c9 Fm;have a0:=(d4.setCell (p:=.a (w.heap.size+1+1+1) 0) Fr (.s (some ⟨gl,ol,none⟩) x.locals.length G)).setCell (p:=.a (w.heap.size+1+1+1) 1) Fr (.s Z (x.stack.length+1) uc);go_wp2_with fail;refine tb (.tuple #[.agg #[.s (some ⟨gl,ol,none⟩) x.locals.length G,.s Z (x.stack.length+1) uc],.bool b]) (by simp[results,Bsy,go_sem,b5,b6]) ?_;obtain rfl:=Ba HE;cases b
  ·exact⟨⟨some ⟨gl,ol,none⟩,x.locals.length,G,Z,(x.stack.length+1),uc⟩,rfl,fun y Q=>by simp at Q,a0⟩
  refine⟨⟨some ⟨gl,ol,none⟩,x.locals.length,G,Z,(x.stack.length+1),uc⟩,rfl,fun y Q=>?_,a0⟩;simp at Q;subst Q;exact⟨d5.below a0,Gw d0 Bd,Bd,Bd⟩
 have n2:((b2[p].toNat:Int)==2)=false:=Fr;have i2:=V;clear V;by_cases V:(b2[p].toNat:Int)=3
 ·have hq:=Ba l3 (by rw[V];simp);obtain⟨q,rfl⟩:=Brp hq.1;have g0:q<x.locals.length:=Ck;have q4:(q:Int)<(x.locals.length:Int):=Ck;by_cases c5:x.stack.length<1
  ·have HE:Hid (R=none):=by unfold Hid;rw[<- a3];unfold D7;rw[V];simp[c5]
   have f8:(x.stack.length:Int)<1:=Ck;clear a3 c5;go_wp2_with fail;refine tb (.tuple #[.agg #[.s N x.locals.length G,.s sa x.stack.length J],.bool false]) (by simp[results,Bsy,go_sem,z0,z1]) ?_;obtain rfl:=Ba HE;exact⟨⟨N,x.locals.length,G,sa,x.stack.length,J⟩,rfl,fun y Q=>by simp at Q,(a5.setCell Fr _).setCell Fr _⟩
  obtain⟨j,hh⟩:∃j:Nat,x.stack.length=j+1:=⟨x.stack.length-1,Ck⟩;have c6:j<x.stack.length:=Ck;have d1:x.stack.getD (x.stack.length-1) (0,0)=x.stack[j]:=by
   rw[show x.stack.length-1=j by omega];simp[Vm,c6]
  obtain⟨L,O,rfl,b1,c4⟩:=c3.at Ck;obtain⟨s0,s1⟩:=c4 j c6;have HE:Hid (R=some ⟨x.locals.set q (x.stack[j]),x.stack.take j⟩):=by
   unfold Hid;rw[<- a3];unfold D7;rw[V,Pk Ck,Th rfl,Pk Ck,d1,show x.stack.length-1=j by omega];rfl
  generalize x.stack[j]=tt at *;obtain⟨B,D⟩:=tt;simp only at s0 s1;have S0:Hid (∀A,Bl w A->A.C L (O+j*2) (.i B)/\A.C L (O+j*2+1) (.i D)/\L<A.heap.size):=fun A h=>⟨(h.cell b1).trans s0,(h.cell b1).trans s1,Brs b1 h.size⟩;have j6:IntKind.i64.wrap ((x.stack.length:Int)-1)=(j:Int):=by rw[show (x.stack.length:Int)-1=(j:Int) by omega];exact Cx _ Ck Ck
  have j7:(x.stack.length:Int)-1=(j:Int):=Ck;have j8:(j:Int)<(x.stack.length:Int):=Ck;have h9:(j:Int)<=(J:Int):=Ck;have d6:j<=x.stack.length:=Ck;have f8:¬(x.stack.length:Int)<1:=Ck;have l6:x.stack.length-j=1:=Ck;have j9:IntKind.i64.wrap (j:Int)=(j:Int):=Cx _ Ck Ck;have l7:¬J=j:=Ck;clear s0 s1 c4 d1 b1 c5 a3 hh c6;have b0:Calls prog 296 #[.s N x.locals.length G,.s none 0 0] F fun e A=>∃a c,e=.r (.s a x.locals.length c)/\Cq A F.heap.size (.s a x.locals.length c) x.locals/\Bl F A:=by
   have h:=My x.locals [] N none x.locals.length G 0 0 F (d5.below a5) (TyR.nil _) Fr;simpa using h
  have c8:=Bc b0;clear b0;go_wp2_with fail;refine(Ba c8).mono ?_;rintro e w2 ⟨ta,tc,rfl,k0,Y⟩;have a8:=a5.trans (Y.mono f3);have f5:=a8.size;have X2:=stay Y X1;have Z2:=stay Y Z1;obtain⟨gt,rfl,s6,s7,s8,s9,t3,t4,q5⟩:=Sm k0 g0 B D;have t5:gt≠w.heap.size+1+1:=Ck;have t6:w.heap.size+1+1≠gt:=Ck;have t7:gt≠w.heap.size+1+1+1:=Ck;have t8:w.heap.size+1+1+1≠gt:=Ck;obtain⟨s0,s1,l8⟩:=Ba S0 _ a8;clear f0 f1 x0 x1 z0 z1 q0 q1 lF lM lX m0 m1 m2 m3 m4 m5 m6 m7 m8 m9 b8 b9 c8;have x1:=Bb X2 1;obtain⟨z0,z1⟩:=cl2 Z2;obtain⟨q0,q1⟩:=fr2 Z2;have lX:=Sp X2;have q6:=Sp Z2;simp at x1 z0 z1;have c0:=(a8.setCell (p:=.a gt (q*2)) Fr (.i B)).setCell (p:=.a gt (q*2+1)) Fr (.i D);have a0:=(c0.setCell (p:=.a (w.heap.size+1+1+1) 0) Fr (.s (.p gt) x.locals.length tc)).setCell (p:=.a (w.heap.size+1+1+1) 1) Fr (.s (some ⟨L,O,none⟩) j J);have c9:=(Kp.set_lo (e:=none) (b:=F.heap.size) (i:=0) (g:=w.heap.size+1+1+1) (w:=(w2.setCell (.a gt (q*2)) (.i B)).setCell (.a gt (q*2+1)) (.i D)) lZ (.s (.p gt) x.locals.length tc)).trans (Kp.set_lo (i:=1) (g:=w.heap.size+1+1+1) lZ (.s (some ⟨L,O,none⟩) j J));have d0:=Cq.kp q5 c9 Fm;go_wp2_with fail;refine tb (.tuple #[.agg #[.s (.p gt) x.locals.length tc,.s (some ⟨L,O,none⟩) j J],.bool true]) (by simp[results,Bsy,go_sem,z0,z1]) ?_;obtain rfl:=Ba HE;refine⟨⟨some ⟨gt,0,none⟩,x.locals.length,tc,some ⟨L,O,none⟩,j,J⟩,rfl,fun y Q=>?_,a0⟩;simp only[Option.some.injEq]at Q;subst Q;exact⟨Gw d0 Hd,(c3.take d6).below a0,Fr,Fr⟩
 have n3:((b2[p].toNat:Int)==3)=false:=Fr;have i3:=V;clear V;by_cases V:(b2[p].toNat:Int)=4
 ·by_cases c5:x.stack.length<1
  ·have HE:Hid (R=none):=by unfold Hid;rw[<- a3];unfold D7;rw[V];simp[c5]
   have f8:(x.stack.length:Int)<1:=Ck;clear a3 c5;go_wp2_with fail;refine tb (.tuple #[.agg #[.s N x.locals.length G,.s sa x.stack.length J],.bool false]) (by simp[results,Bsy,go_sem,z0,z1]) ?_;obtain rfl:=Ba HE;exact⟨⟨N,x.locals.length,G,sa,x.stack.length,J⟩,rfl,fun y Q=>by simp at Q,(a5.setCell Fr _).setCell Fr _⟩
  obtain⟨j,hh⟩:∃j:Nat,x.stack.length=j+1:=⟨x.stack.length-1,Ck⟩;have c6:j<x.stack.length:=Ck;have d1:x.stack.getD (x.stack.length-1) (0,0)=x.stack[j]:=by
   rw[show x.stack.length-1=j by omega];simp[Vm,c6]
  obtain⟨L,O,rfl,b1,c4⟩:=c3.at Ck;obtain⟨s0,s1⟩:=c4 j c6;have HE:Hid (R=some ⟨x.locals,x.stack.take j⟩):=by
   unfold Hid;rw[<- a3];unfold D7;rw[V,Pk Ck,Pk Ck,Th rfl,Pk Ck,show x.stack.length-1=j by omega]
  generalize x.stack[j]=tt at *;obtain⟨B,D⟩:=tt;simp only at s0 s1;have S0:Hid (∀A,Bl w A->A.C L (O+j*2) (.i B)/\A.C L (O+j*2+1) (.i D)/\L<A.heap.size):=fun A h=>⟨(h.cell b1).trans s0,(h.cell b1).trans s1,Brs b1 h.size⟩;have j6:IntKind.i64.wrap ((x.stack.length:Int)-1)=(j:Int):=by rw[show (x.stack.length:Int)-1=(j:Int) by omega];exact Cx _ Ck Ck
  have j7:(x.stack.length:Int)-1=(j:Int):=Ck;have j8:(j:Int)<(x.stack.length:Int):=Ck;have h9:(j:Int)<=(J:Int):=Ck;have d6:j<=x.stack.length:=Ck;have f8:¬(x.stack.length:Int)<1:=Ck;have l6:x.stack.length-j=1:=Ck;have j9:IntKind.i64.wrap (j:Int)=(j:Int):=Cx _ Ck Ck;have l7:¬J=j:=Ck;clear s0 s1 c4 d1 b1 c5 a3 hh c6;have a0:=((a5.drew.setCell (p:=.a (w.heap.size+1+1+1) 0) Fr (.s N x.locals.length G)).setCell (p:=.a (w.heap.size+1+1+1) 1) Fr (.s (some ⟨L,O,none⟩) j J));go_wp2
  go_region
  go_wp2_with fail;refine tb (.tuple #[.agg #[.s N x.locals.length G,.s (some ⟨L,O,none⟩) j J],.bool true]) (by simp[results,Bsy,go_sem,z0,z1]) ?_;obtain rfl:=Ba HE;refine⟨⟨N,x.locals.length,G,some ⟨L,O,none⟩,j,J⟩,rfl,fun y Q=>?_,⟨a0.os,a0.tape,a0.output,a0.size,a0.block⟩⟩;simp only[Option.some.injEq]at Q;subst Q;have l9:Bl w _:=⟨a0.os,a0.tape,a0.output,a0.size,a0.block⟩;exact⟨d5.below l9,(c3.take d6).below l9,Bd,Fr⟩
 have n4:((b2[p].toNat:Int)==4)=false:=Fr;have i4:=V;clear V;by_cases V:(b2[p].toNat:Int)=5
 ·by_cases c5:x.stack.length<1
  ·have HE:Hid (R=none):=by unfold Hid;rw[<- a3];unfold D7;rw[V];simp[c5]
   have f8:(x.stack.length:Int)<1:=Ck;clear a3 c5;go_wp2_with fail;refine tb (.tuple #[.agg #[.s N x.locals.length G,.s sa x.stack.length J],.bool false]) (by simp[results,Bsy,go_sem,z0,z1]) ?_;obtain rfl:=Ba HE;exact⟨⟨N,x.locals.length,G,sa,x.stack.length,J⟩,rfl,fun y Q=>by simp at Q,(a5.setCell Fr _).setCell Fr _⟩
  obtain⟨j,hh⟩:∃j:Nat,x.stack.length=j+1:=⟨x.stack.length-1,Ck⟩;have c6:j<x.stack.length:=Ck;have d1:x.stack.getD (x.stack.length-1) (0,0)=x.stack[j]:=by
   rw[show x.stack.length-1=j by omega];simp[Vm,c6]
  obtain⟨L,O,rfl,b1,c4⟩:=c3.at Ck;obtain⟨s0,s1⟩:=c4 j c6;have HE:Hid (R=some ⟨x.locals,x.stack++x.stack.drop j⟩):=by
   unfold Hid;rw[<- a3];unfold D7;rw[V,Pk Ck,Pk Ck,Pk Ck,Th rfl,Pk Ck,show x.stack.length-1=j by omega]
  generalize x.stack[j]=tt at *;obtain⟨B,D⟩:=tt;simp only at s0 s1;have S0:Hid (∀A,Bl w A->A.C L (O+j*2) (.i B)/\A.C L (O+j*2+1) (.i D)/\L<A.heap.size):=fun A h=>⟨(h.cell b1).trans s0,(h.cell b1).trans s1,Brs b1 h.size⟩;have j6:IntKind.i64.wrap ((x.stack.length:Int)-1)=(j:Int):=by rw[show (x.stack.length:Int)-1=(j:Int) by omega];exact Cx _ Ck Ck
  have j7:(x.stack.length:Int)-1=(j:Int):=Ck;have j8:(j:Int)<(x.stack.length:Int):=Ck;have h9:(j:Int)<=(J:Int):=Ck;have d6:j<=x.stack.length:=Ck;have f8:¬(x.stack.length:Int)<1:=Ck;have l6:x.stack.length-j=1:=Ck;have j9:IntKind.i64.wrap (j:Int)=(j:Int):=Cx _ Ck Ck;have l7:¬J=j:=Ck;clear s0 s1 c4 d1 b1 c5 a3 hh c6;have a6:F.C (w.heap.size+1+1) 0 (.s N x.locals.length G):=(Bb X1 0).trans rfl;have a7:F.C (w.heap.size+1+1) 1 (.s (some ⟨L,O,none⟩) x.stack.length J):=(Bb X1 1).trans rfl;have a9:w.heap.size+1+1<F.drew.heap.size:=Sp X1;have b4:Bl w F.drew:=a5.drew;have ZA:F.drew.heap[w.heap.size+1+1+1]?=some (O21 none 0 0 none 0 0):=Z1;have n0:TyR F.drew (.s (some ⟨L,O+j*2,none⟩) 1 (J-j)) (x.stack.drop j):=(c3.below b4).drop d6 Ck rfl;have i0:(x.stack.drop j).length=1:=Fr;have b0:Calls prog 296 #[.s (some ⟨L,O,none⟩) x.stack.length J,.s (some ⟨L,O+j*2,none⟩) 1 (J-j)] F.drew fun e A =>
    ∃a c,e=.r (.s a (x.stack.length+1) c)/\Cq A F.drew.heap.size (.s a (x.stack.length+1) c) (x.stack++x.stack.drop j)/\Bl F.drew A:=by
   have h:=My (x.stack) (x.stack.drop j) (some ⟨L,O,none⟩) (some ⟨L,O+j*2,none⟩) x.stack.length J 1 (J-j) F.drew (c3.below b4) (n0) (by rw[i0];omega);rw[i0]at h;exact h
  have c8:=Bc b0;clear b0;clear n0;go_wp2
  go_region_held3 (fun A=>A.C (w.heap.size+1+1) 0 (.s N x.locals.length G)/\A.C (w.heap.size+1+1) 1 (.s (some ⟨L,O,none⟩) x.stack.length J))
   (first|exact⟨a6,a7⟩|exact⟨QC I Bd (a6),QC I Bd (a7)⟩|exact⟨(Brt _ _ _ _ Bd).trans ((Brt _ _ _ _ Bd).trans (QC I Bd (a6))),(Brt _ _ _ _ Bd).trans ((Brt _ _ _ _ Bd).trans (QC I Bd (a7)))⟩)
   (first|(go_at_call 296;refine(Ba c8).mono ?_;rintro e w7 ⟨Z,uc,rfl,d3,I⟩;have Z7:=stay I ZA;have b5:=Bb Z7 0;have b6:=Bb Z7 1;have g3:=Bk Z7 0;have g4:=Bk Z7 1;simp at b5 b6))
  have d4:=QB b4 I;have lb:=Sp ZA;have c9:=(Kp.set_lo (e:=none) (i:=0) (g:=w.heap.size+1+1+1) (w:=w7) lb (.s N x.locals.length G)).trans (Kp.set_lo (i:=1) (g:=w.heap.size+1+1+1) lb (.s Z (x.stack.length+1) uc));have d0:=Cq.kp d3 c9 Fm;have a0:=(d4.setCell (p:=.a (w.heap.size+1+1+1) 0) Fr (.s N x.locals.length G)).setCell (p:=.a (w.heap.size+1+1+1) 1) Fr (.s Z (x.stack.length+1) uc);go_wp2_with fail;refine tb (.tuple #[.agg #[.s N x.locals.length G,.s Z (x.stack.length+1) uc],.bool true]) (by simp[results,Bsy,go_sem,b5,b6]) ?_;obtain rfl:=Ba HE;refine⟨⟨N,x.locals.length,G,Z,(x.stack.length+1),uc⟩,rfl,fun y Q=>?_,a0⟩;simp only[Option.some.injEq]at Q;subst Q;exact⟨d5.below a0,Gw d0 (by rw[Ws,i0]),Bd,by rw[Ws,i0];omega⟩
 have n5:((b2[p].toNat:Int)==5)=false:=Fr;have i5:=V;clear V;by_cases V:(b2[p].toNat:Int)=6
 ·by_cases c5:x.stack.length<2
  ·have HE:Hid (R=none):=by unfold Hid;rw[<- a3];unfold D7;rw[V];simp[c5]
   have f8:(x.stack.length:Int)<2:=Ck;clear a3 c5;go_wp2_with fail;refine tb (.tuple #[.agg #[.s N x.locals.length G,.s sa x.stack.length J],.bool false]) (by simp[results,Bsy,go_sem,z0,z1]) ?_;obtain rfl:=Ba HE;exact⟨⟨N,x.locals.length,G,sa,x.stack.length,J⟩,rfl,fun y Q=>by simp at Q,(a5.setCell Fr _).setCell Fr _⟩
  obtain⟨j,hh⟩:∃j:Nat,x.stack.length=j+2:=⟨x.stack.length-2,Ck⟩;obtain⟨k1,q7⟩:∃k1:Nat,k1=j+1:=⟨_,rfl⟩;have c6:j<x.stack.length:=Ck;have k2:k1<x.stack.length:=Ck;have d1:x.stack.getD (x.stack.length-2) (0,0)=x.stack[j]:=by
   rw[show x.stack.length-2=j by omega];simp[Vm,c6]
  have n1:x.stack.getD (x.stack.length-1) (0,0)=x.stack[k1]:=by
   rw[show x.stack.length-1=k1 by omega];simp[Vm,k2]
  obtain⟨L,O,rfl,b1,c4⟩:=c3.at Ck;obtain⟨s0,s1⟩:=c4 k1 k2;obtain⟨s2,s3⟩:=c4 j c6;have HE:Hid (R=some ⟨x.locals,x.stack.take j++[x.stack[k1],x.stack[j]]⟩):=by
   unfold Hid;rw[<- a3];unfold D7;rw[V,Pk Ck,Pk Ck,Pk Ck,Pk Ck,Th rfl,Pk Ck,d1,n1,show x.stack.length-2=j by omega]
  generalize x.stack[k1]=tt at *;generalize x.stack[j]=uu at *;obtain⟨B,D⟩:=tt;obtain⟨u1,u2⟩:=uu;simp only at s0 s1 s2 s3;have S0:Hid (∀A,Bl w A->A.C L (O+k1*2) (.i B)/\A.C L (O+k1*2+1) (.i D)/\A.C L (O+j*2) (.i u1)/\A.C L (O+j*2+1) (.i u2)/\L<A.heap.size):=fun A h=>⟨(h.cell b1).trans s0,(h.cell b1).trans s1,(h.cell b1).trans s2,(h.cell b1).trans s3,Brs b1 h.size⟩;have t9:IntKind.i64.wrap ((x.stack.length:Int)-1)=(k1:Int):=by rw[show (x.stack.length:Int)-1=(k1:Int) by omega];exact Cx _ Ck Ck
  have x2:IntKind.i64.wrap ((x.stack.length:Int)-2)=(j:Int):=by rw[show (x.stack.length:Int)-2=(j:Int) by omega];exact Cx _ Ck Ck
  have x3:(x.stack.length:Int)-1=(k1:Int):=Ck;have x4:(x.stack.length:Int)-2=(j:Int):=Ck;have j8:(j:Int)<(x.stack.length:Int):=Ck;have x5:(k1:Int)<(x.stack.length:Int):=Ck;have h9:(j:Int)<=(J:Int):=Ck;have d6:j<=x.stack.length:=Ck;have f8:¬(x.stack.length:Int)<2:=Ck;have j9:IntKind.i64.wrap (j:Int)=(j:Int):=Cx _ Ck Ck;have x6:IntKind.i64.wrap (k1:Int)=(k1:Int):=Cx _ Ck Ck;clear s0 s1 s2 s3 c4 d1 n1 c5 a3 hh c6 k2 q7;have a6:F.C (w.heap.size+1+1) 0 (.s N x.locals.length G):=(Bb X1 0).trans rfl;have a7:F.C (w.heap.size+1+1) 1 (.s (some ⟨L,O,none⟩) x.stack.length J):=(Bb X1 1).trans rfl;have a9:w.heap.size+1+1<F.drew.heap.size:=Sp X1;obtain⟨s0,s1,s2,s3,l8⟩:=Ba S0 _ a5;have d2:L<F.drew.heap.size:=l8;have b4:Bl w (F.alloc (O20 B D u1 u2)).drew:=(a5.alloc f3 _).drew;have ZA:(F.alloc (O20 B D u1 u2)).drew.heap[w.heap.size+1+1+1]?=some (O21 none 0 0 none 0 0):=Bg Z1 (O20 B D u1 u2);have f4:TyR (F.alloc (O20 B D u1 u2)).drew (.s (.p F.heap.size) 2 2) [(B,D),(u1,u2)]:=(TyR.new2 F B D u1 u2).below (Brm _ _).drew;have f6:=(c3.below b4).take d6;have b3:(x.stack.take j).length=j:=Fr;have b0:Calls prog 296 #[.s (some ⟨L,O,none⟩) j J,.s (.p F.heap.size) 2 2] (F.alloc (O20 B D u1 u2)).drew fun e A =>
    ∃a c,e=.r (.s a (j+2) c)/\Cq A (F.alloc (O20 B D u1 u2)).drew.heap.size (.s a (j+2) c) (x.stack.take j++[(B,D),(u1,u2)])/\Bl (F.alloc (O20 B D u1 u2)).drew A:=by
   have h:=My (x.stack.take j) ([(B,D),(u1,u2)]) (some ⟨L,O,none⟩) (.p F.heap.size) j J 2 2 (F.alloc (O20 B D u1 u2)).drew (f6) (f4) (by rw[b3];simp;omega);rw[b3]at h;exact h
  have c8:=Bc b0;clear b0;clear f4 f6;go_wp2
  go_region_held3 (fun A=>A.C (w.heap.size+1+1) 0 (.s N x.locals.length G)/\A.C (w.heap.size+1+1) 1 (.s (some ⟨L,O,none⟩) x.stack.length J)/\A.C L (O+k1*2) (.i B)/\A.C L (O+k1*2+1) (.i D)/\A.C L (O+j*2) (.i u1)/\A.C L (O+j*2+1) (.i u2))
   (first|exact⟨a6,a7,s0,s1,s2,s3⟩|exact⟨QA a9 a6,QA a9 a7,QA d2 s0,QA d2 s1,QA d2 s2,QA d2 s3⟩|exact⟨QC I Bd (QA a9 a6),QC I Bd (QA a9 a7),QC I Bd (QA d2 s0),QC I Bd (QA d2 s1),QC I Bd (QA d2 s2),QC I Bd (QA d2 s3)⟩|exact⟨(Brt _ _ _ _ Bd).trans ((Brt _ _ _ _ Bd).trans (QC I Bd (QA a9 a6))),(Brt _ _ _ _ Bd).trans ((Brt _ _ _ _ Bd).trans (QC I Bd (QA a9 a7))),(Brt _ _ _ _ Bd).trans ((Brt _ _ _ _ Bd).trans (QC I Bd (QA d2 s0))),(Brt _ _ _ _ Bd).trans ((Brt _ _ _ _ Bd).trans (QC I Bd (QA d2 s1))),(Brt _ _ _ _ Bd).trans ((Brt _ _ _ _ Bd).trans (QC I Bd (QA d2 s2))),(Brt _ _ _ _ Bd).trans ((Brt _ _ _ _ Bd).trans (QC I Bd (QA d2 s3)))⟩)
   (first|(go_at_call 296;refine(Ba c8).mono ?_;rintro e w7 ⟨Z,uc,rfl,d3,I⟩;have Z7:=stay I ZA;have b5:=Bb Z7 0;have b6:=Bb Z7 1;have g3:=Bk Z7 0;have g4:=Bk Z7 1;simp at b5 b6))
  have d4:=QB b4 I;have lb:=Sp ZA;have c9:=(Kp.set_lo (e:=none) (i:=0) (g:=w.heap.size+1+1+1) (w:=w7) lb (.s N x.locals.length G)).trans (Kp.set_lo (i:=1) (g:=w.heap.size+1+1+1) lb (.s Z (j+2) uc));have d0:=Cq.kp d3 c9 Fm;have a0:=(d4.setCell (p:=.a (w.heap.size+1+1+1) 0) Fr (.s N x.locals.length G)).setCell (p:=.a (w.heap.size+1+1+1) 1) Fr (.s Z (j+2) uc);go_wp2_with fail;refine tb (.tuple #[.agg #[.s N x.locals.length G,.s Z (j+2) uc],.bool true]) (by simp[results,Bsy,go_sem,b5,b6]) ?_;obtain rfl:=Ba HE;refine⟨⟨N,x.locals.length,G,Z,(j+2),uc⟩,rfl,fun y Q=>?_,a0⟩;simp only[Option.some.injEq]at Q;subst Q;exact⟨d5.below a0,Gw d0 (by rw[Ws,b3]),Bd,by rw[Ws,b3];simp;omega⟩
 have n6:((b2[p].toNat:Int)==6)=false:=Fr;have i6:=V;clear V;by_cases V:(b2[p].toNat:Int)=15
 ·have HE:Hid (R=some ⟨Ci (4,(p:Int)) (0,0) x.locals,Ci (4,(p:Int)) (0,0) x.stack++[(4,(p:Int))]⟩):=by
   unfold Hid;rw[<- a3];unfold D7;rw[V,Pk Ck,Pk Ck,Pk Ck,Pk Ck,Pk Ck,Th rfl]
  clear a3;have n7:=a5.alloc f3 (O7 4 (p:Int));have tA:=Be F (O7 4 (p:Int));have XA:=Bg X1 (O7 4 (p:Int));have h6:=Bg Z1 (O7 4 (p:Int));go_wp2_with fail;refine(Rl x.locals N x.locals.length G 4 (p:Int) 0 0 _ (d5.below n7) Ck).mono ?_;rintro e w2 ⟨ta,tc,rfl,k0,Y⟩;have a8:=QB n7 Y;have f5:=a8.size;have i1:=stay Y tA;have X2:=stay Y XA;have Z2:=stay Y h6;clear f0 f1 x0 x1 z0 z1 q0 q1 lF lM lX m0 m1 m2 m3 m4 m5 m6 m7 m8 m9 b8 b9 tA XA h6 Y;have x1:=Bb X2 1;obtain⟨t0,B⟩:=cl2 i1;have lX:=Sp X2;have lT:=Sp i1;simp at x1 t0 B;go_wp2_with fail;refine(Rl x.stack sa x.stack.length J 4 (p:Int) 0 0 _ (c3.below a8) Ck).mono ?_;rintro e w3 ⟨va,vc,rfl,q8,a1⟩;have c0:=a8.trans (a1.mono f5);have f9:=c0.size;have n8:=stay a1 i1;have Z3:=stay a1 Z2;have q9:=Cq.kp k0 (Kp.of_below (e:=none) a1) Fm;clear x1 t0 B lX lT i1 X2 a1;obtain⟨t0,B⟩:=cl2 n8;have lT:=Sp n8;simp at t0 B;have b4:=c0.alloc f9 (O7 4 (p:Int));have ZA:=Bg Z3 (O7 4 (p:Int));have f4:=TyR.new1 w3 4 (p:Int);have b3:(Ci (4,(p:Int)) (0,0) x.stack).length=x.stack.length:=by simp[Ci]
  have n9:TyR (w3.alloc (O7 4 (p:Int))) (.s va x.stack.length vc) (Ci (4,(p:Int)) (0,0) x.stack):=(Gw q8 (by rw[b3])).below (QN _);have b0:Calls prog 296 #[.s va x.stack.length vc,.s (.p w3.heap.size) 1 1] (w3.alloc (O7 4 (p:Int))) fun e A =>
    ∃a c,e=.r (.s a (x.stack.length+1) c)/\Cq A (w3.alloc (O7 4 (p:Int))).heap.size (.s a (x.stack.length+1) c) (Ci (4,(p:Int)) (0,0) x.stack++[(4,(p:Int))])/\Bl (w3.alloc (O7 4 (p:Int))) A:=by
   have h:=My (Ci (4,(p:Int)) (0,0) x.stack) ([(4,(p:Int))]) va (.p w3.heap.size) x.stack.length vc 1 1 (w3.alloc (O7 4 (p:Int))) (n9) (f4) (by rw[b3];simp;omega);rw[b3]at h;exact h
  have c8:=Bc b0;clear b0;clear f4 n9;go_wp2_with fail;refine(Ba c8).mono ?_;rintro e w7 ⟨Z,uc,rfl,d3,I⟩;have Z7:=stay I ZA;have b5:=Bb Z7 0;have b6:=Bb Z7 1;have g3:=Bk Z7 0;have g4:=Bk Z7 1;simp at b5 b6;have r0:=Cq.kp (Cq.kp q9 (Kp.alloc (e:=none) _ _) Fm) (Kp.of_below (e:=none) I) Fm;have o0:w.heap.size+1+1+1<(F.alloc (O7 4 (p:Int))).heap.size:=Fr;have d4:=QB b4 I;have lb:=Sp ZA;have c9:=(Kp.set_lo (e:=none) (i:=0) (g:=w.heap.size+1+1+1) (w:=w7) lb (.s ta x.locals.length tc)).trans (Kp.set_lo (i:=1) (g:=w.heap.size+1+1+1) lb (.s Z (x.stack.length+1) uc));have d0:=Cq.kp d3 c9 Fm;have a0:=(d4.setCell (p:=.a (w.heap.size+1+1+1) 0) Fr (.s ta x.locals.length tc)).setCell (p:=.a (w.heap.size+1+1+1) 1) Fr (.s Z (x.stack.length+1) uc);go_wp2_with fail;refine tb (.tuple #[.agg #[.s ta x.locals.length tc,.s Z (x.stack.length+1) uc],.bool true]) (by simp[results,Bsy,go_sem,b5,b6]) ?_;obtain rfl:=Ba HE;refine⟨⟨ta,x.locals.length,tc,Z,(x.stack.length+1),uc⟩,rfl,fun y Q=>?_,a0⟩;simp only[Option.some.injEq]at Q;subst Q;exact⟨Gw (Cq.kp r0 ((Kp.set_lo (e:=none) (i:=0) o0 _).trans (Kp.set_lo (i:=1) o0 _)) Fm) (by simp[Ci]),Gw d0 (by rw[Ws,b3]),by simp[Ci];omega,by rw[Ws,b3];simp;omega⟩
 have x7:((b2[p].toNat:Int)==15)=false:=Fr;have o1:=V;clear V;by_cases V:(b2[p].toNat:Int)=16
 ·have hq:=Ba q3 V;obtain⟨q,rfl⟩:=Brp hq.1;have g0:q<l.length:=Ck;have c7:R=Ns (RFl.mk d7 d8 d9 f2 bb l ms).T (Rf.all (RFl.mk d7 d8 d9 f2 bb l ms).T (l.map Prod.fst) q) (fun q=>Rf.at' b2.data.toList (q+1)) (q:Int) x:=by
   rw[<- a3];unfold D7;rw[V,Pk Ck,Pk Ck,Pk Ck,Pk Ck,Pk Ck,Pk Ck,Th rfl];rfl
  have k3:=fun A h=>Ba l1 q A h g0;rw[<- c7]at k3;have o2:=Bc k3;clear k3 a3 c7 l1;go_wp2_with fail;refine(Ba o2 _ a5).mono ?_;rintro e w2 ⟨u,rfl,hu,Y⟩;obtain⟨o3,o4,o5,o6,o7,o8⟩:=u;have a8:=a5.trans (Y.mono f3);have Z2:=stay Y Z1;clear f0 f1 x0 x1 z0 z1 q0 q1 lF lM lX m0 m1 m2 m3 m4 m5 m6 m7 m8 m9 b8 b9 o2;obtain⟨z0,z1⟩:=cl2 Z2;obtain⟨q0,q1⟩:=fr2 Z2;have q6:=Sp Z2;simp at z0 z1;go_wp2_with fail;refine tb (.tuple #[.agg #[.s o3 o4 o5,.s o6 o7 o8],.bool R.isSome]) (by simp[results,Bsy,go_sem,z0,z1]) ?_;refine⟨⟨o3,o4,o5,o6,o7,o8⟩,rfl,fun y Q=>?_,(a8.setCell Fr _).setCell Fr _⟩;have h:=hu y Q;exact⟨h.lo.set_frame Z2 _ _,h.st.set_frame Z2 _ _,h.hl,h.hs⟩
 have x8:((b2[p].toNat:Int)==16)=false:=Fr;have o9:=V;clear V;have r3:=Ba p8;have r4:=Ba p9;obtain⟨TK,k4⟩:∃TK,Co (RFl.mk d7 d8 d9 f2 bb l ms).fields (ms.map fun x=>x.1.m) (r1,r2) (b2[p].toNat:Int) n=TK:=⟨_,rfl⟩;obtain⟨LV,k5⟩:∃LV,Dp (RFl.mk d7 d8 d9 f2 bb l ms).fields (ms.map fun x=>x.1.m) (b2[p].toNat:Int) n=LV:=⟨_,rfl⟩;rw[k4]at r3 h3;rw[k5]at r4 h4;have c7:R=(if Ey (RFl.mk d7 d8 d9 f2 bb l ms).T x.stack TK=false then none else some ⟨x.locals,x.stack.take (x.stack.length-TK.length)++LV⟩):=by
  rw[<- a3,<- k4,<- k5];unfold D7;rw[Pk i2,Pk i3,Pk i4,Pk i5,Pk i6,Pk o1,Pk o9]
 have p0:=fun a2 n2 c2 A h h2=>Ba l2 TK a2 n2 c2 A h h2 Ck;have p1:Ey (RFl.mk d7 d8 d9 f2 bb l ms).T x.stack TK=true->TK.length<=x.stack.length:=by
  intro h;unfold Ey at h;by_cases j:x.stack.length<TK.length;·rw[Th j]at h;simp at h
  omega
 generalize Ey (RFl.mk d7 d8 d9 f2 bb l ms).T x.stack TK=TP at *;have k6:=Bc p0;clear p0 l2 a3 k4 k5 i2 i3 i4 i5 i6 o1 o9;cases TP with
 | false =>
  rw[Th rfl]at c7;have HE:=Bc c7;clear c7;go_wp2_with fail;refine(Ba h3 _ a5).mono ?_;rintro e w2 ⟨ka,kc,rfl,f6,Y⟩;have a8:=a5.trans (Y.mono f3);have F2:=stay Y F1;have M2:=stay Y M1;have X2:=stay Y X1;have Z2:=stay Y Z1;have f5:=a8.size;clear f0 f1 x0 x1 z0 z1 q0 q1 lF lM lX lZ m0 m1 m2 m3 m4 m5 m6 m7 m8 m9 b8 b9 F1 M1 X1 Z1 Y;obtain⟨f0,f1⟩:=cl2 F2;obtain⟨m0,m1,m2,m3,m4,m5,m6,m7,m8,m9,b8,b9⟩:=El M2;have lF:=Sp F2;have lM:=Sp M2;simp at f0 f1 m0 m1 m2 m3 m4 m5 m6 m7 m8 m9 b8 b9;go_wp2_with fail;refine(Ba h4 _ a8).mono ?_;rintro e w3 ⟨va,vc,rfl,g5,a1⟩;have c0:=a8.trans (a1.mono f5);have g6:=f6.below a1;have F3:=stay a1 F2;have X3:=stay a1 X2;have Z3:=stay a1 Z2;have f9:=c0.size;clear f0 f1 lF lM m0 m1 m2 m3 m4 m5 m6 m7 m8 m9 b8 b9 F2 M2 X2 Z2 a1;obtain⟨f0,f1⟩:=cl2 F3;have x1:=Bb X3 1;have lF:=Sp F3;have lX:=Sp X3;simp at f0 f1 x1;go_wp2_with fail;refine Qm (Ba k6 ka TK.length kc _ c0 g6) ?_;intro w4 b7;have f7:=c0.trans (b7.mono f9);have p2:=f7.size;have i7:=g5.below b7;have X4:=stay b7 X3;have Z4:=stay b7 Z3;clear f0 f1 x1 lF lX F3 X3 Z3 b7;obtain⟨x0,x1⟩:=cl2 X4;obtain⟨z0,z1⟩:=cl2 Z4;obtain⟨q0,q1⟩:=fr2 Z4;have lX:=Sp X4;have lZ:=Sp Z4;simp at x0 x1 z0 z1;go_wp2_with fail;refine tb (.tuple #[.agg #[.s N x.locals.length G,.s sa x.stack.length J],.bool false]) (by simp[results,Bsy,go_sem,z0,z1]) ?_;obtain rfl:=Ba HE;exact⟨⟨N,x.locals.length,G,sa,x.stack.length,J⟩,rfl,fun y Q=>by simp at Q,(f7.setCell Fr _).setCell Fr _⟩
 | true =>
  rw[Pk Hd]at c7;have r5:=p1 rfl;obtain⟨a4,r6⟩:∃a4:Nat,x.stack.length=a4+TK.length:=⟨x.stack.length-TK.length,Ck⟩;have e0:x.stack.length-TK.length=a4:=Ck;rw[e0]at c7;have HE:=Bc c7;have j6:IntKind.i64.wrap ((x.stack.length:Int)-(TK.length:Int))=(a4:Int):=by rw[show (x.stack.length:Int)-(TK.length:Int)=(a4:Int) by omega];exact Cx _ Ck Ck
  have j7:(x.stack.length:Int)-(TK.length:Int)=(a4:Int):=Ck;have x9:IntKind.i64.wrap (a4:Int)=(a4:Int):=Cx _ Ck Ck;have h9:(a4:Int)<=(J:Int):=Ck;have d6:a4<=x.stack.length:=Ck;have b3:(x.stack.take a4).length=a4:=Fr;clear c7 e0 r5 r6 p1;rcases c3.addr with ⟨k7,r7⟩|⟨L,O,k7⟩
  ·subst k7 r7;have r8:a4=0:=Ck;subst r8;have y0:IntKind.i64.wrap 0=0:=Cx _ Ck Ck;go_wp2_with fail;refine(Ba h3 _ a5).mono ?_;rintro e w2 ⟨ka,kc,rfl,f6,Y⟩;have a8:=a5.trans (Y.mono f3);have F2:=stay Y F1;have M2:=stay Y M1;have X2:=stay Y X1;have Z2:=stay Y Z1;have f5:=a8.size;clear f0 f1 x0 x1 z0 z1 q0 q1 lF lM lX lZ m0 m1 m2 m3 m4 m5 m6 m7 m8 m9 b8 b9 F1 M1 X1 Z1 Y;obtain⟨f0,f1⟩:=cl2 F2;obtain⟨m0,m1,m2,m3,m4,m5,m6,m7,m8,m9,b8,b9⟩:=El M2;have lF:=Sp F2;have lM:=Sp M2;simp at f0 f1 m0 m1 m2 m3 m4 m5 m6 m7 m8 m9 b8 b9;go_wp2_with fail;refine(Ba h4 _ a8).mono ?_;rintro e w3 ⟨va,vc,rfl,g5,a1⟩;have c0:=a8.trans (a1.mono f5);have g6:=f6.below a1;have F3:=stay a1 F2;have X3:=stay a1 X2;have Z3:=stay a1 Z2;have f9:=c0.size;clear f0 f1 lF lM m0 m1 m2 m3 m4 m5 m6 m7 m8 m9 b8 b9 F2 M2 X2 Z2 a1;obtain⟨f0,f1⟩:=cl2 F3;have x1:=Bb X3 1;have lF:=Sp F3;have lX:=Sp X3;simp at f0 f1 x1;go_wp2_with fail;refine Qm (Ba k6 ka TK.length kc _ c0 g6) ?_;intro w4 b7;have f7:=c0.trans (b7.mono f9);have p2:=f7.size;have i7:=g5.below b7;have X4:=stay b7 X3;have Z4:=stay b7 Z3;clear f0 f1 x1 lF lX F3 X3 Z3 b7;obtain⟨x0,x1⟩:=cl2 X4;obtain⟨z0,z1⟩:=cl2 Z4;obtain⟨q0,q1⟩:=fr2 Z4;have lX:=Sp X4;have lZ:=Sp Z4;simp at x0 x1 z0 z1;have a6:w4.C (w.heap.size+1+1) 0 (.s N x.locals.length G):=(Bb X4 0).trans rfl;have a7:w4.C (w.heap.size+1+1) 1 (.s none x.stack.length 0):=(Bb X4 1).trans rfl;have a9:w.heap.size+1+1<w4.drew.heap.size:=Sp X4;have b4:Bl w w4.drew:=f7.drew;have ZA:w4.drew.heap[w.heap.size+1+1+1]?=some (O21 none 0 0 none 0 0):=Z4;have b0:Calls prog 296 #[.s none 0 0,.s va LV.length vc] w4.drew fun e A =>
     ∃a c,e=.r (.s a LV.length c)/\Cq A w4.drew.heap.size (.s a LV.length c) (x.stack.take 0++LV)/\Bl w4.drew A:=by
    have h:=My (x.stack.take 0) (LV) none va 0 0 LV.length vc w4.drew ((c3.below b4).take d6) (i7.below (Brm _ _).drew) (by rw[b3];omega);rw[b3,Brz]at h;exact h
   have c8:=Bc b0;clear b0;go_wp2;refine Br4 (S:=(fun A=>A.C (w.heap.size+1+1) 0 (.s N x.locals.length G)/\A.C (w.heap.size+1+1) 1 (.s none x.stack.length 0))) Lt ⟨a6,a7⟩ (fun c1=>?_);refine tq 0 (.q (w.heap.size+1+1) 0) c1 ?_;refine tq 1 (.s N x.locals.length G) c1 ?_;refine tq 2 (.q (w.heap.size+1+1) 1) c1 ?_;refine tq 3 (.s none x.stack.length 0) c1 ?_;refine tq 4 (.i (x.stack.length:Int)) c1 ?_;refine tq 5 (.s ka TK.length kc) c1 ?_;refine tq 6 (.i (TK.length:Int)) c1 ?_;refine tq 7 (.i 0) c1 ?_;refine tq 8 (.s none 0 0) c1 ?_;refine tq 9 (.s va LV.length vc) c1 ?_;refine tr 10 fun K hK=>?_;go_simp;refine(Ba c8).mono ?_;rintro e w7 ⟨Z,uc,rfl,d3,I⟩;have Z7:=stay I ZA;have b5:=Bb Z7 0;have b6:=Bb Z7 1;have g3:=Bk Z7 0;have g4:=Bk Z7 1;simp at b5 b6
   try dsimp only
   clear c1;refine hK.out _ _ ⟨QC I a9 a6,QC I a9 a7⟩ (fun c1=>?_);clear hK K
   try simp only[QX]
   refine tq 11 (.agg #[.s N x.locals.length G,.s Z LV.length uc]) c1 ?_;refine tr 12 fun K hK=>?_;go_simp;clear c1;refine hK.out _ _ ⟨(Brt _ _ _ _ Bd).trans ((Brt _ _ _ _ Bd).trans (QC I a9 a6)),(Brt _ _ _ _ Bd).trans ((Brt _ _ _ _ Bd).trans (QC I a9 a7))⟩ (fun c1=>?_);clear hK K
   try simp only[QX]
   refine tq 13 (.bool true) c1 ?_;refine Bsg Lt ?_ _;have d4:=QB b4 I;have lb:=Sp ZA;have c9:=(Kp.set_lo (e:=none) (i:=0) (g:=w.heap.size+1+1+1) (w:=w7) lb (.s N x.locals.length G)).trans (Kp.set_lo (i:=1) (g:=w.heap.size+1+1+1) lb (.s Z LV.length uc));have d0:=Cq.kp d3 c9 Fm;have a0:=(d4.setCell (p:=.a (w.heap.size+1+1+1) 0) Fr (.s N x.locals.length G)).setCell (p:=.a (w.heap.size+1+1+1) 1) Fr (.s Z LV.length uc);go_wp2_with fail;refine tb (.tuple #[.agg #[.s N x.locals.length G,.s Z LV.length uc],.bool true]) (by simp[results,Bsy,go_sem,b5,b6]) ?_;obtain rfl:=Ba HE;refine⟨⟨N,x.locals.length,G,Z,LV.length,uc⟩,rfl,fun y Q=>?_,a0⟩;simp only[Option.some.injEq]at Q;subst Q;exact⟨d5.below a0,Gw d0 (by rw[Ws,b3,Brz]),Bd,by rw[Ws,b3];omega⟩
  subst k7;go_wp2_with fail;refine(Ba h3 _ a5).mono ?_;rintro e w2 ⟨ka,kc,rfl,f6,Y⟩;have a8:=a5.trans (Y.mono f3);have F2:=stay Y F1;have M2:=stay Y M1;have X2:=stay Y X1;have Z2:=stay Y Z1;have f5:=a8.size;clear f0 f1 x0 x1 z0 z1 q0 q1 lF lM lX lZ m0 m1 m2 m3 m4 m5 m6 m7 m8 m9 b8 b9 F1 M1 X1 Z1 Y;obtain⟨f0,f1⟩:=cl2 F2;obtain⟨m0,m1,m2,m3,m4,m5,m6,m7,m8,m9,b8,b9⟩:=El M2;have lF:=Sp F2;have lM:=Sp M2;simp at f0 f1 m0 m1 m2 m3 m4 m5 m6 m7 m8 m9 b8 b9;go_wp2_with fail;refine(Ba h4 _ a8).mono ?_;rintro e w3 ⟨va,vc,rfl,g5,a1⟩;have c0:=a8.trans (a1.mono f5);have g6:=f6.below a1;have F3:=stay a1 F2;have X3:=stay a1 X2;have Z3:=stay a1 Z2;have f9:=c0.size;clear f0 f1 lF lM m0 m1 m2 m3 m4 m5 m6 m7 m8 m9 b8 b9 F2 M2 X2 Z2 a1;obtain⟨f0,f1⟩:=cl2 F3;have x1:=Bb X3 1;have lF:=Sp F3;have lX:=Sp X3;simp at f0 f1 x1;go_wp2_with fail;refine Qm (Ba k6 ka TK.length kc _ c0 g6) ?_;intro w4 b7;have f7:=c0.trans (b7.mono f9);have p2:=f7.size;have i7:=g5.below b7;have X4:=stay b7 X3;have Z4:=stay b7 Z3;clear f0 f1 x1 lF lX F3 X3 Z3 b7;obtain⟨x0,x1⟩:=cl2 X4;obtain⟨z0,z1⟩:=cl2 Z4;obtain⟨q0,q1⟩:=fr2 Z4;have lX:=Sp X4;have lZ:=Sp Z4;simp at x0 x1 z0 z1;have a6:w4.C (w.heap.size+1+1) 0 (.s N x.locals.length G):=(Bb X4 0).trans rfl;have a7:w4.C (w.heap.size+1+1) 1 (.s (some ⟨L,O,none⟩) x.stack.length J):=(Bb X4 1).trans rfl;have a9:w.heap.size+1+1<w4.drew.heap.size:=Sp X4;have b4:Bl w w4.drew:=f7.drew;have ZA:w4.drew.heap[w.heap.size+1+1+1]?=some (O21 none 0 0 none 0 0):=Z4;have b0:Calls prog 296 #[.s (some ⟨L,O,none⟩) a4 J,.s va LV.length vc] w4.drew fun e A =>
    ∃a c,e=.r (.s a (a4+LV.length) c)/\Cq A w4.drew.heap.size (.s a (a4+LV.length) c) (x.stack.take a4++LV)/\Bl w4.drew A:=by
   have h:=My (x.stack.take a4) (LV) (some ⟨L,O,none⟩) va a4 J LV.length vc w4.drew ((c3.below b4).take d6) (i7.below (Brm _ _).drew) (by rw[b3];omega);rw[b3]at h;exact h
  have c8:=Bc b0;clear b0;go_wp2
  go_region_held3 (fun A=>A.C (w.heap.size+1+1) 0 (.s N x.locals.length G)/\A.C (w.heap.size+1+1) 1 (.s (some ⟨L,O,none⟩) x.stack.length J))
   (first|exact⟨a6,a7⟩|exact⟨QC I Bd (a6),QC I Bd (a7)⟩|exact⟨(Brt _ _ _ _ Bd).trans ((Brt _ _ _ _ Bd).trans (QC I Bd (a6))),(Brt _ _ _ _ Bd).trans ((Brt _ _ _ _ Bd).trans (QC I Bd (a7)))⟩)
   (first|(go_at_call 296;refine(Ba c8).mono ?_;rintro e w7 ⟨Z,uc,rfl,d3,I⟩;have Z7:=stay I ZA;have b5:=Bb Z7 0;have b6:=Bb Z7 1;have g3:=Bk Z7 0;have g4:=Bk Z7 1;simp at b5 b6))
  have d4:=QB b4 I;have lb:=Sp ZA;have c9:=(Kp.set_lo (e:=none) (i:=0) (g:=w.heap.size+1+1+1) (w:=w7) lb (.s N x.locals.length G)).trans (Kp.set_lo (i:=1) (g:=w.heap.size+1+1+1) lb (.s Z (a4+LV.length) uc));have d0:=Cq.kp d3 c9 Fm;have a0:=(d4.setCell (p:=.a (w.heap.size+1+1+1) 0) Fr (.s N x.locals.length G)).setCell (p:=.a (w.heap.size+1+1+1) 1) Fr (.s Z (a4+LV.length) uc);go_wp2_with fail;refine tb (.tuple #[.agg #[.s N x.locals.length G,.s Z (a4+LV.length) uc],.bool true]) (by simp[results,Bsy,go_sem,b5,b6]) ?_;obtain rfl:=Ba HE;refine⟨⟨N,x.locals.length,G,Z,(a4+LV.length),uc⟩,rfl,fun y Q=>?_,a0⟩;simp only[Option.some.injEq]at Q;subst Q;exact⟨d5.below a0,Gw d0 (by rw[Ws,b3]),Bd,by rw[Ws,b3];omega⟩
def Es (st:Int)(y:Option Bf):Option Bf:=y.bind fun z=>if (z.stack.length:Int)<=st then some z else none
def Bje(f:RFl)(m:RMV)(p:Nat)(v:FrV)(P:Option Bf)(w:TW) (hM:∀B,Bl w B->Calls prog 275 #[f.val,m.val,.i (p:Int),v.val] B fun e a8=>∃u:FrV,e=.r (.tuple #[u.val,.bool P.isSome])/\(∀y,P=some y->u.is y a8)/\Bl B a8):Calls prog 227 #[f.val,m.val,.i (p:Int),v.val] w fun e B => ∃u:FrV,e=.r (.tuple #[u.val,.bool (Es m.st P).isSome])/\(∀y,Es m.st P=some y->u.is y B)/\Bl w B:=by
 obtain⟨a9,b0,b1,b2,bb,l,ms⟩:=f;obtain⟨cl,nm,pa,pl,pc,r1,r2,lo,D,b3,ha,hl,hc,ma,ml,mc,b4,b5⟩:=m;obtain⟨la,ln,lc,sa,sn,sc⟩:=v;simp only[RMV.val,RFl.val,FrV.val]at hM ⊢;have HM:=Bc hM;clear hM;have a0:=U9 w (O11 a9 l.length b0 b1 ms.length b2) (O12 cl nm pa pl pc r1 r2 lo D b3 ha hl hc ma ml mc b4 b5) (O21 la ln lc sa sn sc) (O21 none 0 0 none 0 0);obtain⟨F0,M0,X0,Z0⟩:=Ai w (O11 a9 l.length b0 b1 ms.length b2) (O12 cl nm pa pl pc r1 r2 lo D b3 ha hl hc ma ml mc b4 b5) (O21 la ln lc sa sn sc) (O21 none 0 0 none 0 0);cases P with
 | none =>
  go_in;go_wp2_with fail;refine(Ba HM _ a0).mono ?_;rintro e j ⟨u,rfl,-,F⟩;obtain⟨c,g,h,b,A,vc⟩:=u;have O:=QB a0 F;have a1:=O.size;have G:=stay F M0;have J:=stay F Z0;obtain⟨Q,V⟩:=cl2 J;obtain⟨q0,q1⟩:=fr2 J;have m6:=Bb G 6;have lM:=Sp G;have lZ:=Sp J;simp at Q V m6;clear F0 M0 X0 Z0 F HM;have Y:=Be j (O21 c g h b A vc);have MA:=Bg G (O21 c g h b A vc);have y0:(j.alloc (O21 c g h b A vc)).C j.heap.size 0 (.s c g h):=(Bb Y 0).trans rfl;have y1:(j.alloc (O21 c g h b A vc)).C j.heap.size 1 (.s b A vc):=(Bb Y 1).trans rfl;have mm:(j.alloc (O21 c g h b A vc)).C (w.heap.size+1) 6 (.i D):=(Bb MA 6).trans rfl;have L:((j.setCell (.a (w.heap.size+1+1+1) 0) (.s c g h)).setCell (.a (w.heap.size+1+1+1) 1) (.s b A vc)).heap.size=j.heap.size:=by simp[World.setCell]
  have I:=Be ((j.setCell (.a (w.heap.size+1+1+1) 0) (.s c g h)).setCell (.a (w.heap.size+1+1+1) 1) (.s b A vc)) (O21 c g h b A vc);rw[L]at I;have Z:(((j.setCell (.a (w.heap.size+1+1+1) 0) (.s c g h)).setCell (.a (w.heap.size+1+1+1) 1) (.s b A vc)).alloc (O21 c g h b A vc)).heap[w.heap.size+1]?=_:=Bg ((Brk _ _ _ _ Hd).trans ((Brk _ _ _ _ Hd).trans G)) (O21 c g h b A vc);have a2:(((j.setCell (.a (w.heap.size+1+1+1) 0) (.s c g h)).setCell (.a (w.heap.size+1+1+1) 1) (.s b A vc)).alloc (O21 c g h b A vc)).C j.heap.size 0 (.s c g h):=(Bb I 0).trans rfl;have a3:(((j.setCell (.a (w.heap.size+1+1+1) 0) (.s c g h)).setCell (.a (w.heap.size+1+1+1) 1) (.s b A vc)).alloc (O21 c g h b A vc)).C j.heap.size 1 (.s b A vc):=(Bb I 1).trans rfl;have a4:(((j.setCell (.a (w.heap.size+1+1+1) 0) (.s c g h)).setCell (.a (w.heap.size+1+1+1) 1) (.s b A vc)).alloc (O21 c g h b A vc)).C (w.heap.size+1) 6 (.i D):=(Bb Z 6).trans rfl;have a5:=((O.setCell (p:=.a (w.heap.size+1+1+1) 0) Fr (.s c g h)).setCell (p:=.a (w.heap.size+1+1+1) 1) Fr (.s b A vc));have a6:=(a5.alloc (by rw[L];exact a1) (O21 c g h b A vc)).drew;clear L I Z;go_wp2;refine Br4 (S:=(fun B=>B.C j.heap.size 0 (.s c g h)/\B.C j.heap.size 1 (.s b A vc)/\B.C (w.heap.size+1) 6 (.i D))) Lt ⟨y0,y1,mm⟩ (fun t=>?_);refine tq 0 (.agg #[.s c g h,.s b A vc]) t ?_;refine tq 1 (.bool false) t ?_;refine tq 2 (.bool false) t ?_;refine tn 3 undef t ?_;refine tn 4 undef t ?_;refine tn 5 undef t ?_;refine tn 6 undef t ?_;refine tn 7 undef t ?_;refine tn 8 undef t ?_;refine tq 9 (.bool false) t ?_;refine tr 10 fun K hK=>?_;go_simp;clear t;refine hK.out _ _ ⟨a2,a3,a4⟩ (fun t=>?_);clear hK K
  try simp only[QX]
  refine tq 11 (.bool false) t ?_;refine Bsg Lt ?_ _;go_wp2_with fail;refine tb (.tuple #[.agg #[.s c g h,.s b A vc],.bool false]) (by simp[results,Bwi,go_sem,Q,V,lZ]) ?_;exact⟨⟨c,g,h,b,A,vc⟩,rfl,fun y N=>by simp[Es]at N,a6⟩
 | some y =>
  by_cases b6:(y.stack.length:Int)<=D
  ·have HE:Hid (Es D (some y)=some y):=Th b6;go_in;go_wp2_with fail;refine(Ba HM _ a0).mono ?_;rintro e j ⟨u,rfl,hu,F⟩;obtain⟨c,g,h,b,A,vc⟩:=u;have O:=QB a0 F;have a1:=O.size;have G:=stay F M0;have J:=stay F Z0;obtain⟨Q,V⟩:=cl2 J;obtain⟨q0,q1⟩:=fr2 J;have m6:=Bb G 6;have lM:=Sp G;have lZ:=Sp J;simp at Q V m6;clear F0 M0 X0 Z0 F HM;have N:=hu y rfl;obtain⟨a7,-,-⟩:=N.st.cap;simp only at a7;subst a7;have Y:=Be j (O21 c g h b y.stack.length vc);have MA:=Bg G (O21 c g h b y.stack.length vc);have y0:(j.alloc (O21 c g h b y.stack.length vc)).C j.heap.size 0 (.s c g h):=(Bb Y 0).trans rfl;have y1:(j.alloc (O21 c g h b y.stack.length vc)).C j.heap.size 1 (.s b y.stack.length vc):=(Bb Y 1).trans rfl;have mm:(j.alloc (O21 c g h b y.stack.length vc)).C (w.heap.size+1) 6 (.i D):=(Bb MA 6).trans rfl;have L:((j.setCell (.a (w.heap.size+1+1+1) 0) (.s c g h)).setCell (.a (w.heap.size+1+1+1) 1) (.s b y.stack.length vc)).heap.size=j.heap.size:=by simp[World.setCell]
   have I:=Be ((j.setCell (.a (w.heap.size+1+1+1) 0) (.s c g h)).setCell (.a (w.heap.size+1+1+1) 1) (.s b y.stack.length vc)) (O21 c g h b y.stack.length vc);rw[L]at I;have Z:(((j.setCell (.a (w.heap.size+1+1+1) 0) (.s c g h)).setCell (.a (w.heap.size+1+1+1) 1) (.s b y.stack.length vc)).alloc (O21 c g h b y.stack.length vc)).heap[w.heap.size+1]?=_:=Bg ((Brk _ _ _ _ Hd).trans ((Brk _ _ _ _ Hd).trans G)) (O21 c g h b y.stack.length vc);have a2:(((j.setCell (.a (w.heap.size+1+1+1) 0) (.s c g h)).setCell (.a (w.heap.size+1+1+1) 1) (.s b y.stack.length vc)).alloc (O21 c g h b y.stack.length vc)).C j.heap.size 0 (.s c g h):=(Bb I 0).trans rfl;have a3:(((j.setCell (.a (w.heap.size+1+1+1) 0) (.s c g h)).setCell (.a (w.heap.size+1+1+1) 1) (.s b y.stack.length vc)).alloc (O21 c g h b y.stack.length vc)).C j.heap.size 1 (.s b y.stack.length vc):=(Bb I 1).trans rfl;have a4:(((j.setCell (.a (w.heap.size+1+1+1) 0) (.s c g h)).setCell (.a (w.heap.size+1+1+1) 1) (.s b y.stack.length vc)).alloc (O21 c g h b y.stack.length vc)).C (w.heap.size+1) 6 (.i D):=(Bb Z 6).trans rfl;have a5:=((O.setCell (p:=.a (w.heap.size+1+1+1) 0) Fr (.s c g h)).setCell (p:=.a (w.heap.size+1+1+1) 1) Fr (.s b y.stack.length vc));have a6:=(a5.alloc (by rw[L];exact a1) (O21 c g h b y.stack.length vc)).drew;clear L I Z;go_wp2;refine Br4 (S:=(fun B=>B.C j.heap.size 0 (.s c g h)/\B.C j.heap.size 1 (.s b y.stack.length vc)/\B.C (w.heap.size+1) 6 (.i D))) Lt ⟨y0,y1,mm⟩ (fun t=>?_);refine tq 0 (.agg #[.s c g h,.s b y.stack.length vc]) t ?_;refine tq 1 (.bool true) t ?_;refine tq 2 (.bool true) t ?_;refine tq 3 (.q j.heap.size 1) t ?_;refine tq 4 (.s b y.stack.length vc) t ?_;refine tq 5 (.i (y.stack.length:Int)) t ?_;refine tq 6 (.q (w.heap.size+1) 6) t ?_;refine tq 7 (.i D) t ?_;refine tq 8 (.bool true) t ?_;refine tq 9 (.bool true) t ?_;refine tr 10 fun K hK=>?_;go_simp;clear t;refine hK.out _ _ ⟨a2,a3,a4⟩ (fun t=>?_);clear hK K
   try simp only[QX]
   refine tq 11 (.bool true) t ?_;refine Bsg Lt ?_ _;go_wp2_with fail;refine tb (.tuple #[.agg #[.s c g h,.s b y.stack.length vc],.bool true]) (by simp[results,Bwi,go_sem,Q,V,lZ]) ?_;rw[Ba HE];refine⟨⟨c,g,h,b,y.stack.length,vc⟩,rfl,fun z hz=>?_,a6⟩;simp only[Option.some.injEq]at hz;subst hz;have hb:Below _ _ _:=((Brm ((j.setCell (.a (w.heap.size+1+1+1) 0) (.s c g h)).setCell (.a (w.heap.size+1+1+1) 1) (.s b y.stack.length vc)).heap.size ((j.setCell (.a (w.heap.size+1+1+1) 0) (.s c g h)).setCell (.a (w.heap.size+1+1+1) 1) (.s b y.stack.length vc))).alloc (Bru _) (O21 c g h b y.stack.length vc)).drew;exact⟨(N.lo.set_frame J _ _).below hb,(N.st.set_frame J _ _).below hb,N.hl,N.hs⟩
  have HE:Hid (Es D (some y)=none):=Pk b6;have b7:D<(y.stack.length:Int):=Ck;go_in;go_wp2_with fail;refine(Ba HM _ a0).mono ?_;rintro e j ⟨u,rfl,hu,F⟩;obtain⟨c,g,h,b,A,vc⟩:=u;have O:=QB a0 F;have a1:=O.size;have G:=stay F M0;have J:=stay F Z0;obtain⟨Q,V⟩:=cl2 J;obtain⟨q0,q1⟩:=fr2 J;have m6:=Bb G 6;have lM:=Sp G;have lZ:=Sp J;simp at Q V m6;clear F0 M0 X0 Z0 F HM;have N:=hu y rfl;obtain⟨a7,-,-⟩:=N.st.cap;simp only at a7;subst a7;have Y:=Be j (O21 c g h b y.stack.length vc);have MA:=Bg G (O21 c g h b y.stack.length vc);have y0:(j.alloc (O21 c g h b y.stack.length vc)).C j.heap.size 0 (.s c g h):=(Bb Y 0).trans rfl;have y1:(j.alloc (O21 c g h b y.stack.length vc)).C j.heap.size 1 (.s b y.stack.length vc):=(Bb Y 1).trans rfl;have mm:(j.alloc (O21 c g h b y.stack.length vc)).C (w.heap.size+1) 6 (.i D):=(Bb MA 6).trans rfl;have L:((j.setCell (.a (w.heap.size+1+1+1) 0) (.s c g h)).setCell (.a (w.heap.size+1+1+1) 1) (.s b y.stack.length vc)).heap.size=j.heap.size:=by simp[World.setCell]
  have I:=Be ((j.setCell (.a (w.heap.size+1+1+1) 0) (.s c g h)).setCell (.a (w.heap.size+1+1+1) 1) (.s b y.stack.length vc)) (O21 c g h b y.stack.length vc);rw[L]at I;have Z:(((j.setCell (.a (w.heap.size+1+1+1) 0) (.s c g h)).setCell (.a (w.heap.size+1+1+1) 1) (.s b y.stack.length vc)).alloc (O21 c g h b y.stack.length vc)).heap[w.heap.size+1]?=_:=Bg ((Brk _ _ _ _ Hd).trans ((Brk _ _ _ _ Hd).trans G)) (O21 c g h b y.stack.length vc);have a2:(((j.setCell (.a (w.heap.size+1+1+1) 0) (.s c g h)).setCell (.a (w.heap.size+1+1+1) 1) (.s b y.stack.length vc)).alloc (O21 c g h b y.stack.length vc)).C j.heap.size 0 (.s c g h):=(Bb I 0).trans rfl;have a3:(((j.setCell (.a (w.heap.size+1+1+1) 0) (.s c g h)).setCell (.a (w.heap.size+1+1+1) 1) (.s b y.stack.length vc)).alloc (O21 c g h b y.stack.length vc)).C j.heap.size 1 (.s b y.stack.length vc):=(Bb I 1).trans rfl;have a4:(((j.setCell (.a (w.heap.size+1+1+1) 0) (.s c g h)).setCell (.a (w.heap.size+1+1+1) 1) (.s b y.stack.length vc)).alloc (O21 c g h b y.stack.length vc)).C (w.heap.size+1) 6 (.i D):=(Bb Z 6).trans rfl;have a5:=((O.setCell (p:=.a (w.heap.size+1+1+1) 0) Fr (.s c g h)).setCell (p:=.a (w.heap.size+1+1+1) 1) Fr (.s b y.stack.length vc));have a6:=(a5.alloc (by rw[L];exact a1) (O21 c g h b y.stack.length vc)).drew;clear L I Z;go_wp2;refine Br4 (S:=(fun B=>B.C j.heap.size 0 (.s c g h)/\B.C j.heap.size 1 (.s b y.stack.length vc)/\B.C (w.heap.size+1) 6 (.i D))) Lt ⟨y0,y1,mm⟩ (fun t=>?_);refine tq 0 (.agg #[.s c g h,.s b y.stack.length vc]) t ?_;refine tq 1 (.bool true) t ?_;refine tq 2 (.bool true) t ?_;refine tq 3 (.q j.heap.size 1) t ?_;refine tq 4 (.s b y.stack.length vc) t ?_;refine tq 5 (.i (y.stack.length:Int)) t ?_;refine tq 6 (.q (w.heap.size+1) 6) t ?_;refine tq 7 (.i D) t ?_;refine tq 8 (.bool false) t ?_;refine tq 9 (.bool false) t ?_;refine tr 10 fun K hK=>?_;go_simp;clear t;refine hK.out _ _ ⟨a2,a3,a4⟩ (fun t=>?_);clear hK K
  try simp only[QX]
  refine tq 11 (.bool false) t ?_;refine Bsg Lt ?_ _;go_wp2_with fail;refine tb (.tuple #[.agg #[.s c g h,.s b y.stack.length vc],.bool false]) (by simp[results,Bwi,go_sem,Q,V,lZ]) ?_;rw[Ba HE];exact⟨⟨c,g,h,b,y.stack.length,vc⟩,rfl,fun z hz=>by simp at hz,a6⟩
def Fb (T:TI)(mp:Int->Option Bf)(p:Int)(lo:TP):List Rd.Hnd->Int
 | []=>0
 | h::r=>if p<h.frm then Fb T mp p lo r else if h.til<=p then Fb T mp p lo r
  else if (mp h.target).isSome=false then 8 else if Cj T ⟨lo,[(3,h.cl)]⟩ (Cu (mp h.target))=false then 9 else Fb T mp p lo r
def Bb0(f:RFv)(T:TI)(m:RMV)(c:List Rd.Hnd)(bb:Nat)(mp:Int->Option Bf)(p:Int)(v:FrV)(x:Bf)(w:TW)(hF:f.fitsAs T w)(d0:m.hl=c.length)(g1:c.length<=1000)(d1:Iz w bb (.s m.ha m.hl m.hc) c) (b7:∀q G,Bl w G->Calls prog 172 #[m.val,.i q] G fun e d2=>∃u:FrV,e=.r (.tuple #[u.val,.bool (mp q).isSome])/\u.is (Cu (mp q)) d2/\Bl G d2)(hv:v.is x w):Calls prog 229 #[f.val,m.val,.i p,v.val] w fun e G=>e=.r (.i (Fb T mp p x.locals c))/\Bl w G:=by
 have b8:=fun (u u':FrV) (y y':Bf) G (h:Bl w G) hu f3=>Pv f T u u' y y' G (hF.below h) hu f3;have d3:=hv.lo;have f4:=hv.hl;generalize j:Fb T mp p x.locals c=R;have HR:Hid (Fb T mp p x.locals (c.drop 0)=R):=j;have b2:Hid (∀G,Bl w G->Iz G bb (.s m.ha m.hl m.hc) c):=fun G h=>d1.kp (Kp.of_below (e:=none) h) Fm;obtain⟨a2,fl,a3,a4,fm,a5⟩:=f;obtain⟨cl,nm,pa,pl,pc,r1,r2,lo,st,b9,ha,hl,hc,ma,ml,mc,c0,c3⟩:=m;obtain⟨O,Q,V,sa,sn,sc⟩:=v;simp only at d0;subst d0;simp only[RMV.val,RFv.val,FrV.val]at b7 b8 d3 ⊢;unfold Hid at b2;simp only at b2;have f5:=Bc b2;have f6:=Bc b7;have f7:=Bc b8;clear j hF d1 b7 b8 hv b2;have d4:=Em w (O11 a2 fl a3 a4 fm a5) (O12 cl nm pa pl pc r1 r2 lo st b9 ha c.length hc ma ml mc c0 c3) (O21 O Q V sa sn sc);have C0:=Nz w (O11 a2 fl a3 a4 fm a5) (O12 cl nm pa pl pc r1 r2 lo st b9 ha c.length hc ma ml mc c0 c3) (O21 O Q V sa sn sc);go_in;go_wp2
 go_loopw [9] (fun i wr=>∃q:Nat,q<=c.length/\i=.i (q:Int)/\Hid (Fb T mp p x.locals (c.drop q)=R)/\Bl w wr/\wr.heap[w.heap.size]?=some (O11 a2 fl a3 a4 fm a5)/\wr.heap[w.heap.size+1]?=some (O12 cl nm pa pl pc r1 r2 lo st b9 ha c.length hc ma ml mc c0 c3)/\wr.heap[w.heap.size+1+1]?=some (O21 O Q V sa sn sc))
  (fun i _=>c.length-(intOf i).toNat)
 case atStart=>exact⟨0,Ck,rfl,HR,d4,C0.1,C0.2.1,C0.2.2⟩
 case round=>
  clear HR d4 C0;obtain⟨q,hq,rfl,HR,hB,CF,CM,CX⟩:=hrel;have f8:=hB.size;have lF:=Sp CF;have lM:=Sp CM;have lX:=Sp CX;obtain⟨m0,m1,m2,m3,m4,m5,m6,m7,m8,m9,d5,d6⟩:=El CM;simp at m0 m1 m2 m3 m4 m5 m6 m7 m8 m9 d5 d6;by_cases Y:q<c.length
  ·obtain⟨g,hg,g2,_,a9⟩:=Cf (Ba f5 _ hB) Ck;have y0:=(a9 _ (Db c q Y 0 Ck).2).trans (Db c q Y 0 Ck).1;have y1:=(a9 _ (Db c q Y 1 Ck).2).trans (Db c q Y 1 Ck).1;have y2:=(a9 _ (Db c q Y 2 Ck).2).trans (Db c q Y 2 Ck).1;have y3:=(a9 _ (Db c q Y 3 Ck).2).trans (Db c q Y 3 Ck).1;have hd:c.drop q=c[q]::c.drop (q+1):=Brj Y;have j:=Ba HR;rw[hd,Fb]at j;generalize c[q]=t at *;obtain⟨Z,h2,h3,I⟩:=t;simp at y0 y1 y2 y3;simp only at j;have kb:(q:Int)<(c.length:Int):=Ck;have b0:=hB.alloc f8 (O14 Z h2 h3 I);have c4:=Bg CF (O14 Z h2 h3 I);have c5:=Bg CM (O14 Z h2 h3 I);have c6:=Bg CX (O14 Z h2 h3 I);have f9:=Be wr (O14 Z h2 h3 I);clear a9 hd HR;subst hg;by_cases c1:p<Z
   ·rw[Th c1]at j;have HG:=Bc j;clear j;go_wp2;go_roundw
    case rel=>exact⟨q+1,Ck,Mg,HG,b0,c4,c5,c6⟩
    case measure=>simp[intOf];omega
   rw[Pk c1]at j;by_cases c2:h2<=p
   ·rw[Th c2]at j;have HG:=Bc j;clear j;go_wp2;go_roundw
    case rel=>exact⟨q+1,Ck,Mg,HG,b0,c4,c5,c6⟩
    case measure=>simp[intOf];omega
   rw[Pk c2]at j;have d7:=Ba f6 h3 _ b0;generalize mp h3=MP at *;have b3:=Bc d7;clear d7;cases b4:MP.isSome with
   | false =>
    rw[b4,Th rfl]at j;have HE:=Bc j;rw[b4]at b3;clear j;go_wp2_with fail;refine(Ba b3).mono ?_;rintro e F ⟨u,rfl,-,a1⟩;have a6:=QB b0 a1;obtain⟨l,z,A,B,D,vc⟩:=u;go_wp2;go_ret;exact⟨by rw[<- Ba HE];rfl,a6.alloc a6.size _⟩
   | true =>
    rw[b4,Pk Hd]at j;rw[b4]at b3;have c7:=Bc j;clear j;go_wp2_with fail;refine(Ba b3).mono ?_;rintro e F ⟨u,rfl,hu,a1⟩;have a6:=QB b0 a1;obtain⟨l,z,A,B,D,vc⟩:=u;have F2:=Bg (stay a1 c4) (O21 l z A B D vc);have X2:=Bg (stay a1 c6) (O21 l z A B D vc);have M2:=Bg (stay a1 c5) (O21 l z A B D vc);have H2:=Bg (stay a1 f9) (O21 l z A B D vc);have U2:=Be F (O21 l z A B D vc);have f0:(F.alloc (O21 l z A B D vc)).C w.heap.size 0 (.s a2 fl a3):=(Bb F2 0).trans rfl;have f1:(F.alloc (O21 l z A B D vc)).C w.heap.size 1 (.s a4 fm a5):=(Bb F2 1).trans rfl;have x0:(F.alloc (O21 l z A B D vc)).C (w.heap.size+1+1) 0 (.s O Q V):=(Bb X2 0).trans rfl;have b1:(F.alloc (O21 l z A B D vc)).C wr.heap.size 3 (.i I):=(Bb H2 3).trans rfl;have u0:(F.alloc (O21 l z A B D vc)).C F.heap.size 0 (.s l z A):=(Bb U2 0).trans rfl;have u1:(F.alloc (O21 l z A B D vc)).C F.heap.size 1 (.s B D vc):=(Bb U2 1).trans rfl;have L:w.heap.size<(F.alloc (O21 l z A B D vc)).heap.size:=Sp F2;have a7:w.heap.size+1+1<(F.alloc (O21 l z A B D vc)).heap.size:=Sp X2;have a8:wr.heap.size<(F.alloc (O21 l z A B D vc)).heap.size:=Sp H2;have N:F.heap.size<(F.alloc (O21 l z A B D vc)).heap.size:=Sp U2;clear m0 m1 m2 m3 m4 m5 m6 m7 m8 m9 d5 d6 y0 y1 y2 y3 lF lM lX;go_wp2;refine Br4 (S:=(fun G=>G.C w.heap.size 0 (.s a2 fl a3)/\G.C w.heap.size 1 (.s a4 fm a5)/\G.C (w.heap.size+1+1) 0 (.s O Q V)/\G.C wr.heap.size 3 (.i I)/\G.C F.heap.size 0 (.s l z A)/\G.C F.heap.size 1 (.s B D vc))) Lt ⟨f0,f1,x0,b1,u0,u1⟩ (fun J=>?_);refine tq 0 (.agg #[.s a2 fl a3,.s a4 fm a5]) J ?_;refine tq 1 (.q (w.heap.size+1+1) 0) J ?_;refine tq 2 (.s O Q V) J ?_;refine tq 3 (.q wr.heap.size 3) J ?_;refine tq 4 (.i I) J ?_;refine tq 8 (.agg #[.s l z A,.s B D vc]) J ?_;refine tr 5 fun K hK=>?_;go_simp;refine Qm (Lb I _) ?_;intro w7 b
    try dsimp only
    clear J;refine hK.out _ _ ⟨QC b L f0,QC b L f1,QC b a7 x0,QC b a8 b1,QC b N u0,QC b N u1⟩ (fun J=>?_);clear hK K
    try simp only[QX]
    refine tr 6 fun K hK=>?_;go_simp;clear J;refine hK.out _ _ ⟨QA (QL b L) (QC b L f0),QA (QL b L) (QC b L f1),QA (QL b a7) (QC b a7 x0),QA (QL b a8) (QC b a8 b1),QA (QL b N) (QC b N u0),QA (QL b N) (QC b N u1)⟩ (fun J=>?_);clear hK K
    try simp only[QX]
    refine tq 7 (.agg #[.s O Q V,.s (.p w7.heap.size) 1 1]) J ?_;refine tr 9 fun K hK=>?_;go_simp;have c8:Bl w (F.alloc (O21 l z A B D vc)).drew:=(a6.alloc a6.size _).drew;have c9:=c8.trans (b.mono c8.size);have b5:=c9.alloc c9.size (O7 3 I);have d8:FrV.is ⟨l,z,A,B,D,vc⟩ (Cu MP) (w7.alloc (O7 3 I)):=((hu.below ((QN _).drew)).below b).below (QN _);have d9:FrV.is ⟨O,Q,V,some ⟨w7.heap.size,0,none⟩,1,1⟩ ⟨x.locals,[(3,I)]⟩ (w7.alloc (O7 3 I)):=⟨d3.below b5,TyR.new1 w7 3 I,f4,Hd⟩;refine Qm (Ba f7 ⟨O,Q,V,some ⟨w7.heap.size,0,none⟩,1,1⟩ ⟨l,z,A,B,D,vc⟩ _ _ _ b5 d9 d8) ?_;intro w9 a0
    try dsimp only
    clear J;refine hK.out _ _ ⟨QC a0 (Brs (QL b L) Hd) (QA (QL b L) (QC b L f0)),QC a0 (Brs (QL b L) Hd) (QA (QL b L) (QC b L f1)),QC a0 (Brs (QL b a7) Hd) (QA (QL b a7) (QC b a7 x0)),QC a0 (Brs (QL b a8) Hd) (QA (QL b a8) (QC b a8 b1)),QC a0 (Brs (QL b N) Hd) (QA (QL b N) (QC b N u0)),QC a0 (Brs (QL b N) Hd) (QA (QL b N) (QC b N u1))⟩ (fun J=>?_);clear hK K
    try simp only[QX]
    refine tq 10 (.bool (Cj T ⟨x.locals,[(3,I)]⟩ (Cu MP))) J ?_;refine Bsg Lt ?_ _;have f2:=QB b5 a0;have b6:Bl (F.alloc (O21 l z A B D vc)) w9:=by
     have Z:Bl (F.alloc (O21 l z A B D vc)) w7:=((Brm _ _).drew).trans b;have h2:=Z.alloc Z.size (O7 3 I);exact QB h2 a0
    have F9:=stay b6 F2;have M9:=stay b6 M2;have X9:=stay b6 X2;clear J f0 f1 x0 b1 u0 u1 b a0 b6 F2 M2 X2 H2 U2 d8 d9 c9 b5 c8 a6 a1 hu;have j:=Ba c7;generalize Cj T ⟨x.locals,[(3,I)]⟩ (Cu MP)=g0 at *;cases g0 with
    | true =>
     have HG:Hid (Fb T mp p x.locals (c.drop (q+1))=R):=by unfold Hid;rw[<- j];simp
     clear j c7;go_wp2;go_roundw
     case rel=>exact⟨q+1,Ck,Mg,HG,f2,F9,M9,X9⟩
     case measure=>simp[intOf];omega
    | false =>
     have HE:Hid ((9:Int)=R):=by unfold Hid;rw[<- j];simp
     clear j c7;go_wp2;go_ret;exact⟨by rw[<- Ba HE];rfl,f2⟩
  have HE:Hid ((0:Int)=R):=by unfold Hid;rw[<- Ba HR,Brq Ck];rfl
  have kb:¬(q:Int)<(c.length:Int):=Ck;clear HR;go_wp2;go_ret;exact⟨by rw[<- Ba HE];rfl,hB⟩
def K9 (T:TI)(tk lv want:TP)(arg:Int->Int)(p op n:Int)(x:Bf):Option Bf :=
 if op=2 then (if (x.locals.getD n.toNat (0,0)).1=0 then none else some ⟨x.locals,x.stack++[x.locals.getD n.toNat (0,0)]⟩)
 else if op=3 then (if x.stack.length<1 then none else some ⟨x.locals.set n.toNat (x.stack.getD (x.stack.length-1) (0,0)),x.stack.take (x.stack.length-1)⟩)
 else if op=4 then (if x.stack.length<1 then none else some ⟨x.locals,x.stack.take (x.stack.length-1)⟩)
 else if op=5 then (if x.stack.length<1 then none else some ⟨x.locals,x.stack++x.stack.drop (x.stack.length-1)⟩)
 else if op=6 then (if x.stack.length<2 then none else some ⟨x.locals,x.stack.take (x.stack.length-2)++[x.stack.getD (x.stack.length-1) (0,0),x.stack.getD (x.stack.length-2) (0,0)]⟩)
 else if op=15 then some ⟨Ci (4,p) (0,0) x.locals,Ci (4,p) (0,0) x.stack++[(4,p)]⟩
 else if op=16 then Ns T want arg n x
 else if Ey T x.stack tk=false then none
 else some ⟨x.locals,x.stack.take (x.stack.length-tk.length)++lv⟩
def Az(T:TI)(F:List Rf.Fld)(b:List Rd.Mth)(c:Int->TP)(arg:Int->Int)(e:Int×Int)(p op n:Int)(x:Bf):D7 T F b c arg e p op n x=K9 T (Co F b e op n) (Dp F b op n) (c n) arg p op n x:=rfl
structure Dv where
 lo:List (Int × Int)
 st:List (Int × Int)
 br:Bool
def Bj (b:Dv):(Int × Int) × Dv :=
 if b.st.length=0 then ((0,0),⟨b.lo,b.st,true⟩) else (b.st.getD (b.st.length-1) (0,0),⟨b.lo,b.st.take (b.st.length-1),b.br⟩)
def Tp (T:TI)(t x:Int × Int)(b:Dv):Dv:=if Tr.fitsB T t.1 t.2 x.1 x.2=true then b else ⟨b.lo,b.st,true⟩
def Fn (T:TI)(l:TP):Nat->Dv->Dv
 | 0,b=>b
 | i+1,b=>Fn T l i (Tp T (Bj b).1 (l.getD i (0,0)) (Bj b).2)
def Ga (T:TI)(l:TP)(b:Dv):Dv:=Fn T l l.length b
def Ed (hi:Int)(t:Int × Int)(b:Dv):Dv:=if hi<=(b.st.length:Int) then ⟨b.lo,b.st,true⟩ else ⟨b.lo,b.st++[t],b.br⟩
def Gi (hi:Int):TP->Dv->Dv
 | [],b=>b
 | t::r,b=>Gi hi r (Ed hi t b)
def Va (hi n:Int)(b:Dv):Dv :=
 if n<0 then ⟨b.lo,b.st,true⟩ else if (b.lo.length:Int)<=n then ⟨b.lo,b.st,true⟩ else if (b.lo.getD n.toNat (0,0)).1=0 then ⟨b.lo,b.st,true⟩ else Ed hi (b.lo.getD n.toNat (0,0)) b
def To (n:Int)(b:Dv):Dv :=
 if n<0 then ⟨b.lo,(Bj b).2.st,true⟩ else if (b.lo.length:Int)<=n then ⟨b.lo,(Bj b).2.st,true⟩ else ⟨b.lo.set n.toNat (Bj b).1,(Bj b).2.st,(Bj b).2.br⟩
def K5 (old fresh:Int × Int)(b:Dv):Dv:=⟨Ci old fresh b.lo,Ci old fresh b.st,b.br⟩
def Baf (hi:Int)(b:Dv):Dv:=Ed hi (Bj (Bj b).2).1 (Ed hi (Bj b).1 (Bj (Bj b).2).2)
def Bel (hi:Int)(b:Dv):Dv:=Ed hi (Bj b).1 (Ed hi (Bj b).1 (Bj b).2)
def Py (isNew:Int->Bool)(c:Int)(t:Int × Int)(b:Dv):Dv :=
 if t.1≠4 then ⟨b.lo,b.st,true⟩ else if isNew t.2=false then ⟨b.lo,b.st,true⟩ else K5 t (3,c) b
def W5 (T:TI)(want:TP)(isNew:Int->Bool)(c:Int)(b:Dv):Dv :=
 Py isNew c (Bj (Ga T want b)).1 (Bj (Ga T want b)).2
def Ew (b:Dv):Option Bf:=if b.br=true then none else some ⟨b.lo,b.st⟩
def V5 (T:TI)(hi:Int)(tk lv want:TP)(isNew:Int->Bool)(p op n:Int)(b:Dv):Dv :=
 if op=2 then Va hi n b else if op=3 then To n b else if op=4 then (Bj b).2 else if op=5 then Bel hi b else if op=6 then Baf hi b
 else if op=15 then Ed hi (4,p) (K5 (4,p) (0,0) b) else if op=16 then W5 T want isNew n b else Gi hi lv (Ga T tk b)
def L3 (T:TI)(hi:Int)(tk lv want:TP)(isNew:Int->Bool)(p op n:Int)(x:Bf):Option Bf:=Ew (V5 T hi tk lv want isNew p op n ⟨x.locals,x.stack,false⟩)
def Ee (T:TI):TP->TP->Bool
 | _,[]=>true
 | [],_::_=>false
 | s::ss,t::ts=>Tr.fitsB T s.1 s.2 t.1 t.2&&Ee T ss ts
def Ni{z:TI}(e:Tr.Ok z):∀(a b:TP),(∀t∈a,Tr.Arg z t.1 t.2)->(∀t∈b,Tr.Arg z t.1 t.2)->Hw z a b=Ee z a b
 | _,[],_,_=>by simp[Hw,Ee]
 | [],_::_,_,_=>by simp[Hw,Ee]
 | s::ss,t::ts,ha,hb=>by
  rw[Hw,Ee,Tr.rfits_eq e (ha s Hd) (hb t Hd),Ni e ss ts (fun x c=>ha x (by simp[c])) (fun x c=>hb x (by simp[c]))]
def Bax(T:TI)(t x:Int×Int):∀(a b:TP),a.length=b.length->Ee T (a++[t]) (b++[x])=(Ee T a b&&Tr.fitsB T t.1 t.2 x.1 x.2)
 | [],[],_=>by simp[Ee]
 | [],_::_,h=>by simp at h
 | _::_,[],h=>by simp at h
 | s::ss,y::ys,h=>by
  simp only[Bs5,Ee];rw[Bax T t x ss ys (by simpa using h),Bool.and_assoc]
def Bfr(b:Dv):(Bj b).2.lo=b.lo:=by unfold Bj;split<;>rfl
def Bd8(T:TI)(t x:Int×Int)(b:Dv):(Tp T t x b).lo=b.lo/\(Tp T t x b).st=b.st/\(Tp T t x b).br=(b.br || !Tr.fitsB T t.1 t.2 x.1 x.2):=by
 unfold Tp;cases Tr.fitsB T t.1 t.2 x.1 x.2<;>simp
def Xb{α:Type}(l:List α)(d:α)(h:l.length≠0):l=l.take (l.length-1)++[l.getD (l.length-1) d]:=by
 have b:l.length-1<l.length:=Ck;have:=Bss b;rw[show l.length-1+1=l.length by omega,Buv]at this;rw[Vm,Brl b];exact this
def Bap(T:TI)(l:TP):∀(k:Nat) (b:Dv),b.br=true->(Fn T l k b).br=true
 | 0,b,h=>h
 | k+1,b,h=>by
  unfold Fn;refine Bap T l k _ ?_;rw[(Bd8 _ _ _ _).2.2];have:(Bj b).2.br=true:=by unfold Bj;split<;>simp[h]
  rw[this];rfl
def Xm(T:TI)(l:TP):∀(k:Nat),k<=l.length->∀(b:Dv),(Fn T l k b).lo=b.lo /\
  (k<=b.st.length->(Fn T l k b).st=b.st.take (b.st.length-k)/\(Fn T l k b).br=(b.br || !Ee T (b.st.drop (b.st.length-k)) (l.take k))) /\
  (b.st.length<k->(Fn T l k b).br=true)
 | 0,_,b=>by
  refine⟨rfl,fun _=>⟨?_,?_⟩,fun h=>Ck⟩
  ·simp[Fn]
  simp[Fn,Ee]
 | k+1,hk,b=>by
  have m:k<l.length:=Ck;unfold Fn;obtain⟨c,f,g⟩:=Xm T l k Ck (Tp T (Bj b).1 (l.getD k (0,0)) (Bj b).2);obtain⟨s,p,q⟩:=Bd8 T (Bj b).1 (l.getD k (0,0)) (Bj b).2;rw[s,Bfr]at c;rw[p,q]at f;rw[p]at g;by_cases i:b.st.length=0
  ·refine⟨c,fun h=>Ck,fun _=>?_⟩;have e:Bj b=((0,0),⟨b.lo,b.st,true⟩):=by unfold Bj;rw[Th i]
   refine Bap _ _ _ _ ?_;rw[q,e];rfl
  have e:Bj b=(b.st.getD (b.st.length-1) (0,0),⟨b.lo,b.st.take (b.st.length-1),b.br⟩):=by unfold Bj;rw[Pk i]
  rw[e]at c f g ⊢;simp only at c f g ⊢;have j:(b.st.take (b.st.length-1)).length=b.st.length-1:=Hd;rw[j]at f g;refine⟨c,fun h=>?_,fun h=>g Ck⟩;obtain⟨t,v⟩:=f Ck;refine⟨?_,?_⟩
  ·rw[t,Btw]
   congr 1;omega
  rw[v];have z:=Xb b.st (0,0) i;have A:b.st.drop (b.st.length-(k+1))=(b.st.take (b.st.length-1)).drop (b.st.length-1-k)++[b.st.getD (b.st.length-1) (0,0)]:=by
   conv=>lhs;rw[z]
   rw[Ws,j,Bt4 (by rw[j];simp)]
   congr 2
   simp only[Bs8];omega
  have B:l.take (k+1)=l.take k++[l.getD k (0,0)]:=by
   rw[Bss m,Vm,Brl m];rfl
  rw[A,B,Bax _ _ _ _ _ Fr];cases b.br<;>cases Ee T (List.drop (b.st.length-1-k) (List.take (b.st.length-1) b.st)) (List.take k l)<;>simp
def Wi{z:TI}(f:Tr.Ok z)(l:TP)(b:Dv)(g:∀t∈b.st,Tr.Arg z t.1 t.2)(i:∀t∈l,Tr.Arg z t.1 t.2):(Ga z l b).lo=b.lo/\(Ey z b.st l=true->(Ga z l b).st=b.st.take (b.st.length-l.length)/\(Ga z l b).br=b.br)/\(Ey z b.st l=false->(Ga z l b).br=true):=by
 obtain⟨p,j,q⟩:=Xm z l l.length (Bru _) b;unfold Ga Ey;refine⟨p,fun h=>?_,fun h=>?_⟩
 ·by_cases c:b.st.length<l.length;·rw[Th c]at h;cases h
  rw[Pk c,Ni f _ _ (fun t e=>g t (Btk e)) i]at h;obtain⟨m,g2⟩:=j Ck;refine⟨m,?_⟩;rw[g2,Buv,h];simp
 by_cases c:b.st.length<l.length;·exact q c
 rw[Pk c,Ni f _ _ (fun t e=>g t (Btk e)) i]at h;obtain⟨m,g2⟩:=j Ck;rw[g2,Buv,h];simp
def Oi{c:Int}{C:Int×Int}{b:Dv}(h:b.br=true):(Ed c C b).br=true:=by unfold Ed;split<;>simp[h]
def Xz{c:Int}:∀{l:TP}{b:Dv},b.br=true->(Gi c l b).br=true
 | [],_,h=>h
 | _::r,_,h=>Xz (l:=r) (Oi h)
def Bfs{b:Dv}(h:b.br=true):(Bj b).2.br=true:=by unfold Bj;split<;>simp[h]
def Uw{b:Dv}(h:b.br=true):Ew b=none:=by unfold Ew;rw[Th h]
def Bqa{b:Dv}(h:b.br=false):Ew b=some ⟨b.lo,b.st⟩:=by unfold Ew;rw[h];rfl
def Jl(a b:Int×Int)(l:TP):(Ci a b l).length=l.length:=by simp[Ci]
def Bk9{z:TI}(Q:Tr.Ok z)(i:Int)(l lv want:TP)(isNew:Int->Bool)(arg:Int->Int)(p op n:Int)(x:Bf) (V:∀t∈x.stack,Tr.Arg z t.1 t.2)(a5:∀t∈l,Tr.Arg z t.1 t.2)(a6:∀t∈want,Tr.Arg z t.1 t.2)(a7:lv.length<=1)(b3:(x.stack.length:Int)<=i) (Y:op=2\/op=3->0<=n/\n<(x.locals.length:Int))(a8:op=16->∀t∈x.stack,t.1=4->(isNew t.2=true<->arg t.2=n)):L3 z i l lv want isNew p op n x=Es i (K9 z l lv want arg p op n x):=by
 unfold L3 V5 K9;by_cases q:op=2
 ·rw[Th q,Th q];obtain⟨a1,L⟩:=Y (.inl q);unfold Va;rw[Pk Ck,Pk (by simpa using L)];by_cases D:(x.locals.getD n.toNat (0,0)).1=0;·rw[Th D,Th D];rfl
  rw[Pk D,Pk D];unfold Ed Es;by_cases f:i<=(x.stack.length:Int);·rw[Th f];simp[Ew];omega
  rw[Pk f];simp[Ew];omega
 rw[Pk q,Pk q];by_cases s:op=3
 ·rw[Th s,Th s];obtain⟨a1,L⟩:=Y (.inr s);unfold To;rw[Pk Ck,Pk (by simpa using L)];unfold Bj;by_cases c:x.stack.length=0;·rw[Th (show x.stack.length<1 by omega)];simp[c,Ew,Es]
  rw[Pk (show ¬x.stack.length<1 by omega)];simp only[c,Btv];simp[Ew,Es];omega
 rw[Pk s,Pk s];by_cases F:op=4
 ·rw[Th F,Th F];unfold Bj;by_cases c:x.stack.length=0;·rw[Th (show x.stack.length<1 by omega)];simp[c,Ew,Es]
  rw[Pk (show ¬x.stack.length<1 by omega)];simp only[c,Btv];simp[Ew,Es];omega
 rw[Pk F,Pk F];by_cases G:op=5
 ·rw[Th G,Th G];unfold Bel Bj;by_cases c:x.stack.length=0;·rw[Th (show x.stack.length<1 by omega)];rw[Uw (Oi (Oi (by simp[c])))];rfl
  rw[Pk (show ¬x.stack.length<1 by omega)];simp only[c,Btv];have Z:=Xb x.stack (0,0) c;have a9:x.stack.drop (x.stack.length-1)=[x.stack.getD (x.stack.length-1) (0,0)]:=by
   conv=>lhs;rw[Z]
   rw[Bt4 Hd];simp
  rw[a9];have N:Ed i (x.stack.getD (x.stack.length-1) (0,0)) ⟨x.locals,x.stack.take (x.stack.length-1),false⟩=⟨x.locals,x.stack,false⟩:=by
   unfold Ed;rw[Pk Fr];simp only[<- Z]
  rw[N];unfold Ed Es;by_cases f:i<=(x.stack.length:Int);·rw[Th f];simp[Ew];omega
  rw[Pk f];simp[Ew];omega
 rw[Pk G,Pk G];by_cases I:op=6
 ·rw[Th I,Th I];unfold Baf;by_cases c:x.stack.length=0
  ·rw[Th (show x.stack.length<2 by omega)];have:(Bj ⟨x.locals,x.stack,false⟩).2.br=true:=by unfold Bj;simp[c]
   rw[Uw (Oi (Oi (Bfs this)))];rfl
  have N:Bj ⟨x.locals,x.stack,false⟩=(x.stack.getD (x.stack.length-1) (0,0),⟨x.locals,x.stack.take (x.stack.length-1),false⟩):=by unfold Bj;simp only[c,Btv]
  rw[N];simp only;by_cases a0:x.stack.length<2
  ·rw[Th a0];have:(Bj ⟨x.locals,x.stack.take (x.stack.length-1),false⟩).2.br=true:=by unfold Bj;rw[Th Fr]
   rw[Uw (Oi (Oi this))];rfl
  rw[Pk a0];have e2:Bj ⟨x.locals,x.stack.take (x.stack.length-1),false⟩=(x.stack.getD (x.stack.length-2) (0,0),⟨x.locals,x.stack.take (x.stack.length-2),false⟩):=by
   unfold Bj;rw[Pk Fr];simp only[Btr,Btw,Vm,Bs0];rw[show min (x.stack.length-1) x.stack.length-1=x.stack.length-2 by omega,Th Ck,show min (x.stack.length-2) (x.stack.length-1)=x.stack.length-2 by omega]
  rw[e2];simp only;unfold Ed;have l1:¬i<=((x.stack.take (x.stack.length-2)).length:Int):=Fr;rw[Pk l1];have l2:¬i<=((x.stack.take (x.stack.length-2)++[x.stack.getD (x.stack.length-1) (0,0)]).length:Int):=Fr;simp only[l2,Btv];simp[Ew,Es];omega
 rw[Pk I,Pk I];by_cases J:op=15
 ·rw[Th J,Th J];unfold K5 Ed Es;simp only[Jl];by_cases f:i<=(x.stack.length:Int);·rw[Th f];simp[Ew,Jl];omega
  rw[Pk f];simp[Ew,Jl];omega
 rw[Pk J,Pk J];by_cases v:op=16
 ·rw[Th v,Th v];obtain⟨m,g2,g3⟩:=Wi Q want ⟨x.locals,x.stack,false⟩ V a6;unfold W5 Ns;simp only at m g2 g3;cases j:Ey z x.stack want with
  | false =>
   have:∀t (b:Dv),b.br=true->Ew (Py isNew n t b)=none:=by
    intro t b O;unfold Py K5
    split
    ·rfl
    split
    ·rfl
    exact Uw O
   rw[this _ _ (Bfs (g3 j))];simp[Es]
  | true =>
   obtain⟨A,B⟩:=g2 j;have b4:want.length<=x.stack.length:=by
    unfold Ey at j;by_cases h:x.stack.length<want.length;·rw[Th h]at j;cases j
    omega
   rw[Pk Hd];generalize O:Ga z want ⟨x.locals,x.stack,false⟩=b at *;obtain⟨b0,b1,b2⟩:=b;simp only at m A B;subst m A B;by_cases c:x.stack.length<want.length+1
   ·rw[Th c];have e:Bj ⟨x.locals,x.stack.take (x.stack.length-want.length),false⟩=((0,0),⟨x.locals,x.stack.take (x.stack.length-want.length),true⟩):=by
     unfold Bj;rw[Th Fr]
    rw[e];simp[Py,Ew,Es]
   rw[Pk c];have a3:x.stack.length-want.length-1<x.stack.length:=Ck;have e:Bj ⟨x.locals,x.stack.take (x.stack.length-want.length),false⟩=(x.stack.getD (x.stack.length-want.length-1) (0,0),⟨x.locals,x.stack.take (x.stack.length-want.length-1),false⟩):=by
    unfold Bj;rw[Pk Fr];simp only[Btr,Btw,Vm,Bs0];rw[show min (x.stack.length-want.length) x.stack.length-1=x.stack.length-want.length-1 by omega,Th Ck,show min (x.stack.length-want.length-1) (x.stack.length-want.length)=x.stack.length-want.length-1 by omega]
   rw[e];simp only;have hm:x.stack.getD (x.stack.length-want.length-1) (0,0)∈x.stack:=by
    rw[Vm,Brl a3];exact Brn a3
   generalize x.stack.getD (x.stack.length-want.length-1) (0,0)=t at *;unfold Py;by_cases C:t.1=4
   ·rw[Pk (show ¬t.1≠4 from fun g=>g C),Pk (show ¬t.1≠4 from fun g=>g C)];have a4:=a8 v t hm C;by_cases K:arg t.2=n;·rw[a4.2 K,Pk Hd,Pk (show ¬arg t.2≠n from fun g=>g K)];unfold K5 Es;simp[Ew,Jl];omega
    have:isNew t.2=false:=by
     cases h:isNew t.2
     ·rfl
     exact absurd (a4.1 h) K
    rw[Th this,Th K];rfl
   rw[Th C,Th C];rfl
 rw[Pk v,Pk v];obtain⟨m,g2,g3⟩:=Wi Q l ⟨x.locals,x.stack,false⟩ V a5;simp only at m g2 g3;cases j:Ey z x.stack l with
 | false=>rw[Th rfl,Uw (Xz (g3 j))];rfl
 | true =>
  obtain⟨A,B⟩:=g2 j;rw[Pk Hd];generalize O:Ga z l ⟨x.locals,x.stack,false⟩=b at *;obtain⟨b0,b1,b2⟩:=b;simp only at m A B;subst m A B
  match lv,a7 with
  | [],_ =>
   simp[Gi,Ew,Es];omega
  | [t],_ =>
   simp only[Gi,Ed];by_cases f:i<=((x.stack.take (x.stack.length-l.length)).length:Int);·rw[Th f];simp at f;simp[Ew,Es];omega
   rw[Pk f];simp at f;simp[Ew,Es];omega
def Dw (n:Int):List (List (Int × Int))->Int->Int->Int × Int
 | [],_,_=>(-1,0)
 | own::r,c,f=>if f<=n/\n-f<(own.length:Int) then (c,n-f) else Dw n r (c+1) (f+(own.length:Int))
def Ln (fs:List (List (Int × Int)))(c:Int):List (Int × Int):=if c<0 then [] else fs.getD c.toNat []
def J5 (fs:List (List (Int × Int)))(n:Int):Int × (Int × Int) :=
 if (Dw n fs 0 0).2<0 then (-1,(0,0)) else if ((Ln fs (Dw n fs 0 0).1).length:Int)<=(Dw n fs 0 0).2 then (-1,(0,0))
 else ((Dw n fs 0 0).1,(Ln fs (Dw n fs 0 0).1).getD (Dw n fs 0 0).2.toNat (0,0))
def Ek (T:TI)(fs:List (List (Int × Int)))(c:Int):Nat->List (Int × Int)
 | 0=>[]
 | d+1=>Ek T fs c d++(if Tr.within T c (d:Int)=true then fs.getD d [] else [])
def Dk (T:TI)(fs:List (List (Int × Int)))(c:Int):List (Int × Int):=Ek T fs c fs.length
def Se{z:TI}(c:Tr.Ok z){a B:Int}(e:0<=a)(f:a<(z.length:Int))(g:0<=B):Tr.within z a B=Tr.rbel z a B:=by
 refine Bool.eq_iff_iff.2 ?_;rw[Tr.rbel_iff c e f g];unfold Tr.within Tr.At;simp only[Bwj,Bvb];exact⟨fun h=>h.imp Eq.symm id,fun h=>h.imp Eq.symm id⟩
def Bah{z:TI}(c:Tr.Ok z){a B:Int}(f:0<=a)(e:a<(z.length:Int))(g:a<B):Tr.within z a B=false:=by
 unfold Tr.within;cases h:Tr.below z a B
 ·simp;omega
 have:=Tr.below_lt c Ck e h;omega
def Yc{z:TI}(e:Tr.Ok z)(b:List Rd.Cls){c:Int}(f:0<=c)(g:c<(z.length:Int)):∀d:Nat,Ek z (b.map Rd.Cls.fields) c d=Rf.allTo z b c d
 | 0=>rfl
 | d+1=>by
  rw[Ek,Rf.allTo,Yc e b f g d,Se e f g Ck]
  congr 2
  rw[Vm,Vm,Bsf];cases b[d]? <;> rfl
def Yd{z:TI}(e:Tr.Ok z)(b:List (List (Int×Int))){c:Nat}(f:(c:Int)<(z.length:Int)):∀d:Nat,Ek z b (c:Int) (c+1+d)=Ek z b (c:Int) (c+1)
 | 0=>rfl
 | d+1=>by
  rw[<- Buc,Ek,Yd e b f d,Bah e Ck f Ck];simp
def Un{z:TI}(e:Tr.Ok z)(b:List Rd.Cls)(f:b.length=z.length){c:Nat}(g:c<z.length):Dk z (b.map Rd.Cls.fields) (c:Int)=Rf.all z b c:=by
 unfold Dk Rf.all;rw[<- Yc e b Ck Ck,Br1];have:=Yd e (b.map Rd.Cls.fields) (c:=c) Ck (b.length-(c+1));rw[show c+1+(b.length-(c+1))=b.length by omega]at this;exact this
def Bc9(c b:Int)(own:TP):∀(k i:Nat),i<k->(Rf.ownTo c b own k).getD i ⟨0,0,(0,0)⟩=⟨c,b+(i:Int),own.getD i (0,0)⟩
 | 0,_,h=>Ck
 | k+1,i,h=>by
  rw[Rf.ownTo];by_cases e:i<k;·rw[Vm,Br6 (by rw[Na];exact e),<- Vm];exact Bc9 c b own k i e
  have:i=k:=Ck;subst this;rw[Vm,Br0 (by rw[Na];omega),Na];simp
def Rf.fieldsAt(T:TI)(cs:List Rd.Cls):Nat->Nat->List Rf.Fld
 | _,0=>[]
 | c,j+1=>Rf.ownOf T cs c++Rf.fieldsAt T cs (c+1) j
def Wd(T:TI)(b:List Rd.Cls):∀(j c:Nat),Rf.fieldsAt T b c (j+1)=Rf.fieldsAt T b c j++Rf.ownOf T b (c+j)
 | 0,c=>by simp[Rf.fieldsAt]
 | j+1,c=>by
  rw[Rf.fieldsAt,Wd T b j (c+1),Rf.fieldsAt,Bsi,show c+1+j=c+(j+1) by omega]
def Ye(T:TI)(b:List Rd.Cls):∀j:Nat,Rf.fieldsTo T b j=Rf.fieldsAt T b 7 j
 | 0=>rfl
 | j+1=>by rw[Rf.fieldsTo,Ye T b j,Wd]
def Bc8(T:TI)(b:List Rd.Cls)(n:Nat):∀(j c f:Nat),c+j=b.length->f<=n->n-f<(Rf.fieldsAt T b c j).length ->
  ∃q:Nat,c<=q/\q<b.length/\∃i:Nat,i<(b.getD q ⟨0,[]⟩).fields.length/\Dw (n:Int) ((b.drop c).map Rd.Cls.fields) (c:Int) (f:Int)=((q:Int),(i:Int)) /\
   (Rf.fieldsAt T b c j).getD (n-f) ⟨0,0,(0,0)⟩=⟨(q:Int),((Rf.all T b q).length:Int)-(((b.getD q ⟨0,[]⟩).fields.length:Nat):Int)+(i:Int),(b.getD q ⟨0,[]⟩).fields.getD i (0,0)⟩
 | 0,c,f,hc,hf,h=>by simp[Rf.fieldsAt]at h
 | j+1,c,f,hc,hf,h=>by
  have g:c<b.length:=Ck;rw[Brj g,Bsw,Dw];have l:b.getD c ⟨0,[]⟩=b[c]:=by rw[Vm,Brl g];rfl
  have e:(Rf.ownOf T b c).length=b[c].fields.length:=by rw[Rf.ownOf,Na,l]
  rw[Rf.fieldsAt]at h ⊢;by_cases m:n-f<b[c].fields.length
  ·refine⟨c,Bru _,g,n-f,by rw[l];exact m,?_,?_⟩
   ·rw[Th Ck]
    congr 1;omega
   rw[Vm,Br6 (by rw[e];exact m),<- Vm,Rf.ownOf,Bc9 _ _ _ _ _ (by rw[l];exact m)]
  rw[Pk Ck];obtain⟨q,z,p,i,s,t,v⟩:=Bc8 T b n j (c+1) (f+b[c].fields.length) Ck Ck (by rw[Ws,e]at h;omega);refine⟨q,Ck,p,i,s,?_,?_⟩
  ·rw[<- t];push_cast;rfl
  rw[Vm,Br0 (by rw[e];omega),<- Vm,e,<- v];congr 1;omega
def Ba0(n:Int)(r:List (List (Int×Int)))(f:Int):∀(k:Nat) (c:Int),Dw n (List.replicate k []++r) c f=Dw n r (c+(k:Int)) f
 | 0,c=>Hd
 | k+1,c=>by
  rw[List.replicate_succ,Bs5,Dw,Pk Hd];simp only[Bs2];rw[show f+((0:Nat):Int)=f by omega,Ba0 n r f k (c+1)]
  congr 1;omega
def Bc6(T:TI)(b:List Rd.Cls)(t:7<=b.length)(f:∀i,i<7->(b.getD i ⟨0,[]⟩).fields=[])(n:Nat)(c:n<(Rf.fieldsTo T b (b.length-7)).length):∃q:Nat,7<=q/\q<b.length/\∃i:Nat,i<(b.getD q ⟨0,[]⟩).fields.length/\Dw (n:Int) (b.map Rd.Cls.fields) 0 0=((q:Int),(i:Int))/\Ln (b.map Rd.Cls.fields) (q:Int)=(b.getD q ⟨0,[]⟩).fields/\(Rf.fieldsTo T b (b.length-7)).getD n ⟨0,0,(0,0)⟩=⟨(q:Int),((Rf.all T b q).length:Int)-(((b.getD q ⟨0,[]⟩).fields.length:Nat):Int)+(i:Int),(b.getD q ⟨0,[]⟩).fields.getD i (0,0)⟩:=by
 rw[Ye]at c ⊢;obtain⟨q,g,h,i,j,l,m⟩:=Bc8 T b n (b.length-7) 7 0 Ck Ck (by simpa using c);have e:b.map Rd.Cls.fields=List.replicate 7 []++(b.drop 7).map Rd.Cls.fields:=by
  conv=>lhs;rw[<- Bua 7 b,Bse]
  congr 1
  apply List.ext_getElem
  ·simp;omega
  intro i v p;have s:i<7:=by simpa using p
  have:=f i s;rw[Vm,Brl Ck]at this;rw[List.getElem_map,List.getElem_take,List.getElem_replicate];simpa using this
 refine⟨q,g,h,i,j,by rw[e,Ba0];exact l,?_,m⟩;unfold Ln;rw[Pk Ck,Vm,Bsf,Vm,Brx];cases b[q]? <;> rfl
def Yx(T:TI)(b:List Rd.Cls)(c:7<=b.length)(e:∀i,i<7->(b.getD i ⟨0,[]⟩).fields=[])(n:Nat)(f:n<(Rf.fieldsTo T b (b.length-7)).length):J5 (b.map Rd.Cls.fields) (n:Int)=(((Rf.fieldsTo T b (b.length-7)).getD n ⟨0,0,(0,0)⟩).owner,((Rf.fieldsTo T b (b.length-7)).getD n ⟨0,0,(0,0)⟩).t):=by
 obtain⟨q,_,_,i,l,g,h,j⟩:=Bc6 T b c e n f;unfold J5;rw[g];simp only;rw[Pk Ck,h,Pk Ck,Brx,j]
def I9 (T:TI)(isN:Int->Prop)(t:Int × Int):Prop:=Tr.Arg T t.1 t.2/\(t.1=4->isN t.2)
structure As(T:List Int)(lo:Nat)(hi:Int)(isN:Int->Prop)(x:Bf):Prop where
 lo:x.locals.length=lo
 hi:(x.stack.length:Int)<=hi
 tl:∀t∈x.locals,I9 T isN t
 ts:∀t∈x.stack,I9 T isN t
def Yj(T:TI)(b:Int->Prop):I9 T b (0,0):=⟨.inl ⟨rfl,rfl⟩,fun h=>absurd h Fm⟩
def Tx{z:TI}{c:Int->Prop}{a b:Int×Int}{q:TP}(f:I9 z c b)(h:∀t∈q,I9 z c t):∀t∈Ci a b q,I9 z c t:=by
 intro t e;unfold Ci at e;obtain⟨y,g,rfl⟩:=List.mem_map.1 e
 split
 ·exact f
 exact h y g
def Hf{α:Type}{l:List α}{u:Nat}{d:α}(h:u<l.length):l.getD u d∈l:=by
 rw[Vm,Brl h];exact Brn h
def Vu{α:Type}{l:List α}{u:Nat}{d t:α}(h:t∈l.set u d):t∈l\/t=d:=by
 rcases Bv5 h with h|h
 ·exact .inl h
 exact .inr h
def Bl4{T:TI}{u:Nat}{c:Int}{g:Int->Prop}(v lv A:TP)(arg:Int->Int)(p op n:Int)(x y:Bf)(f:As T u c g x) (I:∀t∈lv,I9 T g t)(J:op=2->0<=n/\n<(u:Int))(K:op=15->I9 T g (4,p))(L:op=16->0<=n/\n<(T.length:Int)) (h:Es c (K9 T v lv A arg p op n x)=some y):As T u c g y:=by
 unfold Es at h;cases b:K9 T v lv A arg p op n x with
 | none=>rw[b]at h;cases h
 | some z =>
  rw[b]at h;simp only[Bt7]at h;by_cases j:(z.stack.length:Int)<=c
  ·rw[Th j]at h;obtain rfl:=Option.some.inj h
   suffices l:z.locals.length=u/\(∀t∈z.locals,I9 T g t)/\(∀t∈z.stack,I9 T g t) from ⟨l.1,j,l.2.1,l.2.2⟩
   have i:∀k,∀t∈x.stack.take k,I9 T g t:=fun k t e=>f.ts t (Bwy e);unfold K9 at b;by_cases m:op=2
   ·rw[Th m]at b
    split at b
    ·cases b
    obtain rfl:=Option.some.inj b;refine⟨f.lo,f.tl,fun t e=>?_⟩;rcases List.mem_append.1 e with e|e
    ·exact f.ts t e
    obtain rfl:=List.mem_singleton.1 e;have:=J m;exact f.tl _ (Hf (by have:=f.lo;omega))
   rw[Pk m]at b;by_cases B:op=3
   ·rw[Th B]at b
    split at b
    ·cases b
    rename_i N;obtain rfl:=Option.some.inj b;refine⟨by simpa using f.lo,fun t e=>?_,fun t e=>i _ t e⟩;rcases Vu e with e|rfl
    ·exact f.tl t e
    exact f.ts _ (Hf Ck)
   rw[Pk B]at b;by_cases C:op=4
   ·rw[Th C]at b
    split at b
    ·cases b
    obtain rfl:=Option.some.inj b;exact⟨f.lo,f.tl,fun t e=>i _ t e⟩
   rw[Pk C]at b;by_cases D:op=5
   ·rw[Th D]at b
    split at b
    ·cases b
    obtain rfl:=Option.some.inj b;refine⟨f.lo,f.tl,fun t e=>?_⟩;rcases List.mem_append.1 e with e|e
    ·exact f.ts t e
    exact f.ts t (Btk e)
   rw[Pk D]at b;by_cases F:op=6
   ·rw[Th F]at b
    split at b
    ·cases b
    rename_i N;obtain rfl:=Option.some.inj b;refine⟨f.lo,f.tl,fun t e=>?_⟩;rcases List.mem_append.1 e with e|e
    ·exact i _ t e
    simp only[Bub,Buh,Bv8]at e;rcases e with rfl|rfl
    ·exact f.ts _ (Hf Ck)
    exact f.ts _ (Hf Ck)
   rw[Pk F]at b;by_cases q:op=15
   ·rw[Th q]at b;obtain rfl:=Option.some.inj b;refine⟨by rw[Jl];exact f.lo,Tx (Yj T g) f.tl,fun t e=>?_⟩;rcases List.mem_append.1 e with e|e
    ·exact Tx (Yj T g) f.ts t e
    obtain rfl:=List.mem_singleton.1 e;exact K q
   rw[Pk q]at b;by_cases s:op=16
   ·rw[Th s]at b;have G:I9 T g (3,n):=⟨.inr (.inr (.inr (.inl ⟨rfl,L s⟩))),fun h=>absurd h Hd⟩;unfold Ns at b
    split at b
    ·cases b
    split at b
    ·cases b
    split at b
    ·cases b
    split at b
    ·cases b
    obtain rfl:=Option.some.inj b;exact⟨by rw[Jl];exact f.lo,Tx G f.tl,Tx G (i _)⟩
   rw[Pk s]at b
   split at b
   ·cases b
   obtain rfl:=Option.some.inj b;refine⟨f.lo,f.tl,fun t e=>?_⟩;rcases List.mem_append.1 e with e|e
   ·exact i _ t e
   exact I t e
  rw[Pk j]at h;cases h
def J0 (mp:Nat->Option Bf)(rl:Nat->Bf->Option Bf)(go:Nat->Bool)(p:Nat)(o:Option Bf):Option Bf :=
 ((mp p).or o).bind fun x=>(rl p x).bind fun z=>if go p=true then some z else none
def Gu (mp:Nat->Option Bf)(rl:Nat->Bf->Option Bf)(go:Nat->Bool)(q:Nat):List Nat->Option Bf->Option Bf
 | [],o=>o
 | p::r,o=>if q<p then o else if p=q then (mp p).or o else Gu mp rl go q r (J0 mp rl go p o)
def Gd (ah:Nat->Option Bf)(lk:Nat->Bf->Int):List Nat->Int × Int
 | []=>(0,0)
 | p::r=>match ah p with
  | none=>Gd ah lk r
  | some x=>if lk p x≠0 then (lk p x,(p:Int)) else Gd ah lk r
def Rh (mp:Nat->Option Bf)(rl:Nat->Bf->Option Bf)(go:Nat->Bool)(lk:Nat->Bf->Int):List Nat->Option Bf->Int × Int
 | [],_=>(0,0)
 | p::r,o=>match (mp p).or o with
  | none=>Rh mp rl go lk r none
  | some x=>if lk p x≠0 then (lk p x,(p:Int)) else Rh mp rl go lk r (J0 mp rl go p o)
def W4(mp:Nat->Option Bf)(b:Nat->Bf->Option Bf)(c:Nat->Bool)(q:Nat)(r:List Nat):∀(d:List Nat) (o:Option Bf),(∀p∈d,p<q) ->
  Gu mp b c q (d++q::r) o=(mp q).or (d.foldl (fun o p=>J0 mp b c p o) o)
 | [],o,_=>by simp[Gu]
 | p::d,o,h=>by
  have f:=h p Hd;rw[Bs5,Gu,Pk Ck,Pk Ck,W4 mp b c q r d _ (fun x e=>h x (by simp[e]))];rfl
def Wq(mp:Nat->Option Bf)(b:Nat->Bf->Option Bf)(c:Nat->Bool)(f:Nat->Bf->Int)(e:Option Bf):∀(r d:List Nat),(d++r).Pairwise (· < ·) ->
  Gd (fun q=>Gu mp b c q (d++r) e) f r=Rh mp b c f r (d.foldl (fun o p=>J0 mp b c p o) e)
 | [],d,_=>by simp[Gd,Rh]
 | p::r,d,h=>by
  have i:∀q∈d,q<p:=fun q j=>(List.pairwise_append.1 h).2.2 q j p Hd;have g:=Wq mp b c f e r (d++[p]) (by simpa using h);rw[Bsi,List.singleton_append,List.foldl_append]at g;simp only[List.foldl_cons,List.foldl_nil]at g;rw[Gd,Rh,W4 mp b c p r d e i,g];generalize List.foldl (fun o p=>J0 mp b c p o) e d=o;cases l:(mp p).or o with
  | none =>
   have:J0 mp b c p o=none:=by unfold J0;rw[l];rfl
   simp only[this]
  | some x=>rfl
def J1 (T:TI)(mp:Int->Option Bf)(H:Int)(R:Option Bf)(op n nxt len:Int):Int :=
 if H≠0 then H else if R.isSome=false then 10
 else if Ei op=true/\(mp n).isSome=false then 8
 else if Ei op=true/\Cj T (Cu R) (Cu (mp n))=false then 9
 else if Dl op=false then 0 else if len<=nxt then 11
 else if (mp nxt).isSome=true/\Cj T (Cu R) (Cu (mp nxt))=false then 9 else 0
def Dg{w:TW}{u b t:Nat}{l:TX}(h:t≠u):(w.setCell (.a u b) l).heap[t]?=w.heap[t]?:=Brk _ _ _ _ (by simpa using h)
def Pu{w:TW}{u:Nat}{x y:TX}{ty:TypeId}(h:w.heap[u]?=some (.cells #[x,y] ty (0,0)))(s t:TX):((w.setCell (.a u 0) s).setCell (.a u 1) t).heap[u]?=some (.cells #[s,t] ty (0,0)):=by
 have b:(w.setCell (.a u 0) s).heap[u]?=some (.cells #[s,y] ty (0,0)):=by rw[Bt h];rfl
 rw[Bt b];rfl
def Hx{w:TW}{u b:Nat}{l t:TX}(h:b≠u):((w.setCell (.a u 0) l).setCell (.a u 1) t).heap[b]?=w.heap[b]?:=(Dg h).trans (Dg h)
def FrV.is.set2{v:FrV}{x:Bf}{w:TW}{u:Nat}{g f:TA}{b t O i:Nat}{ty:TypeId}(h:v.is x w)(e:w.heap[u]?=some (.cells #[.s g b t,.s f O i] ty (0,0)))(s c:TX):v.is x ((w.setCell (.a u 0) s).setCell (.a u 1) c):=⟨h.lo.set_frame e s c,h.st.set_frame e s c,h.hl,h.hs⟩
theorem Bf4{w:World}{k:Nat}{c B e f i j l m:Int}{g p q:Option Addr}{b t O s v z:Nat}{A:ByteArray}(h:w.heap[k]?=some (O12 c B g b t e f i j A p O s q v z l m)):w.cell? ⟨k,0,none⟩=some (.int .i64 c)/\w.cell? ⟨k,1,none⟩=some (.int .i64 B)/\w.cell? ⟨k,2,none⟩=some (.slice g b t)/\w.cell? ⟨k,3,none⟩=some (.int .i64 e)/\w.cell? ⟨k,4,none⟩=some (.int .i64 f)/\w.cell? ⟨k,5,none⟩=some (.int .i64 i)/\w.cell? ⟨k,6,none⟩=some (.int .i64 j)/\w.cell? ⟨k,7,none⟩=some (.string A)/\w.cell? ⟨k,8,none⟩=some (.slice p O s)/\w.cell? ⟨k,9,none⟩=some (.slice q v z)/\w.cell? ⟨k,10,none⟩=some (.int .i64 l)/\w.cell? ⟨k,11,none⟩=some (.int .i64 m):=by
 refine⟨?_,?_,?_,?_,?_,?_,?_,?_,?_,?_,?_,?_⟩
 all_goals (rw[Bb h];rfl)
def Bji(f:RFv)(T:TI)(m:RMV)(p:Nat)(mp:Int->Option Bf)(H:Int)(R:Option Bf)(v:FrV)(w:TW)(hF:f.fitsAs T w)(hp:p<m.code.size)(hs:m.code.size<=100000) (hH:∀c,Bl w c->Calls prog 229 #[f.val,m.val,.i (p:Int),v.val] c fun e b2=>e=.r (.i H)/\Bl c b2) (hR:∀c,Bl w c->Calls prog 227 #[f.val,m.val,.i (p:Int),v.val] c fun e b2=>∃u:FrV,e=.r (.tuple #[u.val,.bool R.isSome])/\(∀y,R=some y->u.is y b2)/\Bl c b2) (d3:∀q c,Bl w c->Calls prog 172 #[m.val,.i q] c fun e b2=>∃u:FrV,e=.r (.tuple #[u.val,.bool (mp q).isSome])/\u.is (Cu (mp q)) b2/\Bl c b2):Calls prog 176 #[f.val,m.val,.i (p:Int),v.val] w fun e c => e=.r (.i (J1 T mp H R ((Ca m.code).getD p 0) (Rf.at' m.code.data.toList ((p:Int)+1)) ((p+Cd.wd ((Ca m.code).getD p 0):Nat):Int) (m.code.size:Int)))/\Bl w c:=by
 have d4:=fun (u u':FrV) (y y':Bf) c (h:Bl w c) hu g2=>Pv f T u u' y y' c (hF.below h) hu g2;have d5:=fun c=>Mz m p c hp hs;have c6:=fun c=>Lz m p c hp hs;rw[Kq _ _ hp]at c6 ⊢;have hJ:=fun c=>Bgy (m.code[p].toNat:Int) c;have hG:=fun c=>Bat (m.code[p].toNat:Int) c;have g3:IntKind.i64.wrap ((m.code[p].toNat:Nat):Int)=((m.code[p].toNat:Nat):Int):=Cx _ Ck (by have:=m.code[p].toNat_lt;omega);generalize b:J1 T mp H R (m.code[p].toNat:Int) (Rf.at' m.code.data.toList ((p:Int)+1)) ((p+Cd.wd (m.code[p].toNat:Int):Nat):Int) (m.code.size:Int)=A;unfold J1 at b;generalize Rf.at' m.code.data.toList ((p:Int)+1)=arg at *;generalize d9:p+Cd.wd (m.code[p].toNat:Int)=D at *;have h9:D<=200000:=by have:=Cd.wd_bd (m.code[p].toNat:Int);omega
 obtain⟨c7,fl,c8,c9,fm,d0⟩:=f;obtain⟨cl,nm,pa,pl,pc,r1,r2,lo,st,F,ha,hl,hc,ma,ml,mc,b9,c0⟩:=m;obtain⟨la,ln,lc,sa,sn,sc⟩:=v;simp only[RMV.val,RFv.val,FrV.val]at hp hs hH hR d3 d4 d5 c6 hJ hG g3 b d9 ⊢;have i0:(p:Int)<(F.size:Int):=Ck;generalize Ei (F[p].toNat:Int)=J at *;generalize Dl (F[p].toNat:Int)=G at *;have b4:=Em w (O11 c7 fl c8 c9 fm d0) (O12 cl nm pa pl pc r1 r2 lo st F ha hl hc ma ml mc b9 c0) (O21 la ln lc sa sn sc);obtain⟨F0,M0,X0⟩:=Nz w (O11 c7 fl c8 c9 fm d0) (O12 cl nm pa pl pc r1 r2 lo st F ha hl hc ma ml mc b9 c0) (O21 la ln lc sa sn sc);have HH:=Bc hH;have HR:=Bc hR;have f2:=Bc d3;have f3:=Bc d4;have f4:=Bc d5;have g4:=Bc c6;have HJ:=Bc hJ;have HG:=Bc hG;clear hH hR d3 d4 d5 c6 hJ hG hF d9;by_cases h0:H=0
 ·subst h0;rw[Pk Hd]at b;cases R with
  | none =>
   rw[Th Hd]at b;have HA:=Bc b;clear b;go_in;go_wp2_with fail;refine Qb (Ba HH _ b4) b4 ?_;intro w1 V Y;have g5:=Y.size;have F1:=stay V F0;have M1:=stay V M0;have X1:=stay V X0;clear V F0 M0 X0;obtain⟨f0,f1⟩:=cl2 F1;simp at f0 f1;obtain⟨Z,m1,m2,m3,m4,m5,m6,t,m8,m9,a0,a1⟩:=El M1;simp at Z m1 m2 m3 m4 m5 m6 t m8 m9 a0 a1;obtain⟨x0,x1⟩:=cl2 X1;simp at x0 x1;go_wp2_with fail;refine(Ba HR _ Y).mono ?_;rintro e w2 ⟨u,rfl,-,b5⟩;obtain⟨I,K,L,N,O,vc⟩:=u;have b6:=QB Y b5;have d6:=b6.size;go_wp2;go_ret;exact⟨by rw[<- Ba HA];rfl,b6.alloc d6 _⟩
  | some y =>
   rw[Pk Hd]at b;rw[show Cu (some y)=y from rfl]at b;have HA:=Bc b;clear b;go_in;go_wp2_with fail;refine Qb (Ba HH _ b4) b4 ?_;intro w1 V Y;have g5:=Y.size;have F1:=stay V F0;have M1:=stay V M0;have X1:=stay V X0;clear V F0 M0 X0;obtain⟨f0,f1⟩:=cl2 F1;simp at f0 f1;obtain⟨Z,m1,m2,m3,m4,m5,m6,t,m8,m9,a0,a1⟩:=El M1;simp at Z m1 m2 m3 m4 m5 m6 t m8 m9 a0 a1;obtain⟨x0,x1⟩:=cl2 X1;simp at x0 x1;go_wp2_with fail;refine(Ba HR _ Y).mono ?_;rintro e w2 ⟨u,rfl,f5,b5⟩;have hu:=f5 y rfl;clear f5;obtain⟨I,K,L,N,O,vc⟩:=u;have b6:=QB Y b5;have d6:=b6.size;have F2:=stay b5 F1;have M2:=stay b5 M1;have f6:=b6.alloc d6 (O21 I K L N O vc);have f7:=hu.below (QN (O21 I K L N O vc));clear b5 F1 M1 X1 f0 f1 Z m1 m2 m3 m4 m5 m6 t m8 m9 a0 a1 x0 x1 hu b6 Y;have t:=Bb M2 7;have lM:=Sp M2;simp at t;go_wp2_with fail;refine Qb (Ba HJ _) f6 ?_;intro w4 c1 a2;have F4:=stay c1 (Bg F2 (O21 I K L N O vc));have M4:=stay c1 (Bg M2 (O21 I K L N O vc));have Y4:=stay c1 (Be w2 (O21 I K L N O vc));have b7:=f7.below c1;clear c1 F2 M2 t lM f7 f6
   go_upto_if 45 with fail
   go_cut [11,14,15] from 46 (fun _ _ _ B=>Bl w B/\B.heap[w.heap.size]?=some (O11 c7 fl c8 c9 fm d0)/\B.heap[w.heap.size+1]?=some (O12 cl nm pa pl pc r1 r2 lo st F ha hl hc ma ml mc b9 c0)/\B.heap[w2.heap.size]?=some (O21 I K L N O vc) /\
    FrV.is ⟨I,K,L,N,O,vc⟩ y B/\Hid ((if G=false then 0 else if (F.size:Int)<=(D:Int) then 11 else if (mp (D:Int)).isSome=true/\Cj T y (Cu (mp (D:Int)))=false then 9 else 0)=A))
   case first=>
    have b:=Ba HA;cases J with
    | false =>
     have g6:Hid ((if G=false then 0 else if (F.size:Int)<=(D:Int) then 11 else if (mp (D:Int)).isSome=true/\Cj T y (Cu (mp (D:Int)))=false then 9 else 0)=A):=by
      unfold Hid;rw[<- b,Pk (show ¬(false=true/\_) by simp),Pk (show ¬(false=true/\_) by simp)]
     clear b HA;go_wp2
     go_meet
     case rel=>exact⟨a2,F4,M4,Y4,b7,g6⟩
    | true =>
     have g7:=Sp M4;have g8:=Sp Y4;have b3:=a2.size
     go_upto_region 10 with fail
     go_cut [14,15] from 46 (fun g9 h1 B=>∃(zb:Nat) (u2:FrV),g9=.q zb 0/\h1=.bool (mp arg).isSome/\B.heap[zb]?=some (O21 u2.la u2.ln u2.lc u2.sa u2.sn u2.sc)/\u2.is (Cu (mp arg)) B /\
      Bl w B/\B.heap[w.heap.size]?=some (O11 c7 fl c8 c9 fm d0)/\B.heap[w.heap.size+1]?=some (O12 cl nm pa pl pc r1 r2 lo st F ha hl hc ma ml mc b9 c0)/\B.heap[w2.heap.size]?=some (O21 I K L N O vc)/\FrV.is ⟨I,K,L,N,O,vc⟩ y B)
     case first=>
      go_wp2
      go_region_held3 (fun c=>c.C (w.heap.size+1) 0 (.i cl)/\c.C (w.heap.size+1) 1 (.i nm)/\c.C (w.heap.size+1) 2 (.s pa pl pc)/\c.C (w.heap.size+1) 3 (.i r1)/\c.C (w.heap.size+1) 4 (.i r2)/\c.C (w.heap.size+1) 5 (.i lo)/\c.C (w.heap.size+1) 6 (.i st)/\c.C (w.heap.size+1) 7 (.string F)/\c.C (w.heap.size+1) 8 (.s ha hl hc)/\c.C (w.heap.size+1) 9 (.s ma ml mc)/\c.C (w.heap.size+1) 10 (.i b9)/\c.C (w.heap.size+1) 11 (.i c0))
       (exact Bf4 (by repeat (first|exact M4|refine Bg ?_ _|refine stay j ?_|refine stay g ?_|refine(Dg Bd).trans ?_)))
       (first|(go_at_call 100;refine Qm (Ba f4 _) ?_;intro w5 j;have c2:w4.heap.size<=w5.heap.size:=Br5 (by first|exact Bru _|(simp;done)) j.size;try have Z5:=stay j (Be _ _))|(go_at_call 172;refine(Ba f2 arg _ (by first|exact a2.drew.trans (j.mono b3)|exact(a2.drew.trans (j.mono b3)).alloc Ck _|exact(a2.drew.alloc b3 _).trans (j.mono Fr))).mono ?_;rintro e w6 ⟨u2,rfl,d7,g⟩;have i1:w4.heap.size<=w6.heap.size:=Br5 (by first|exact Bru _|exact c2|(simp;omega)) g.size;obtain⟨a6,a7,a8,a9,b0,b1⟩:=u2;(first|have Q:=stay g Z5 | have Q:=stay g (Be _ _)|skip);try (have h2:=Bb Q 0;have h3:=Bb Q 1;have i2:=Bk Q 0;have i3:=Bk Q 1;simp at h2 h3)))
      all_goals
       go_wp2
       go_meet
      ·have a3:=a2.drew.trans (j.mono b3);have a4:=a3.trans (g.mono Ck);exact⟨w6.heap.size,⟨a6,a7,a8,a9,b0,b1⟩,rfl,rfl,Be w6 _,d7.below (QN _),a4.alloc Ck _,Bg (stay g (stay j F4)) _,Bg (stay g (stay j M4)) _,Bg (stay g (stay j Y4)) _,(((b7.below (Brm _ _).drew).below j).below g).below (QN _)⟩
      ·have a3:=a2.drew.trans (j.mono b3);have a4:=(a3.alloc Ck _).trans (g.mono Fr);have ll:=Sp (stay j Y4);have lm:=Sp (stay j M4);exact⟨w5.heap.size,⟨a6,a7,a8,a9,b0,b1⟩,rfl,rfl,Pu Q _ _,d7.set2 Q _ _,(a4.setCell Fr _).setCell Fr _,(Hx Ck).trans (stay g (Bg (stay j F4) _)),(Hx Ck).trans (stay g (Bg (stay j M4) _)),(Hx Ck).trans (stay g (Bg (stay j Y4) _)),
        ((((b7.below (Brm _ _).drew).below j).below (QN _)).below g).set2 Q _ _⟩
      have a3:=(a2.alloc b3 (O21 none 0 0 none 0 0)).drew.trans (j.mono Fr);have a4:=a3.trans (g.mono Ck);exact⟨w4.heap.size,⟨a6,a7,a8,a9,b0,b1⟩,rfl,rfl,Pu Q _ _,d7.set2 Q _ _,(a4.setCell Fr _).setCell Fr _,(Hx Ck).trans (stay g (stay j (Bg F4 _))),(Hx Ck).trans (stay g (stay j (Bg M4 _))),(Hx Ck).trans (stay g (stay j (Bg Y4 _))),
       ((((b7.below (QN _)).below (Brm _ _).drew).below j).below g).set2 Q _ _⟩
     case rest=>
      obtain⟨zb,u2,rfl,rfl,Z7,h4,a5,F7,M7,Y7,c3⟩:=hcut;obtain⟨a6,a7,a8,a9,b0,b1⟩:=u2;have d1:=a5.size;simp only at Z7;clear F4 M4 Y4 b7 a2 b3 g7 g8;generalize i4:mp arg=MA at *;cases MA with
      | none =>
       rw[Th Hd]at b;have HE:=Bc b;clear b;go_wp2;go_ret;exact⟨by rw[<- Ba HE];rfl,a5⟩
      | some z =>
       rw[Pk Hd]at b;have c4:=Ba f3 ⟨I,K,L,N,O,vc⟩ ⟨a6,a7,a8,a9,b0,b1⟩ _ _ _ a5 c3 h4;simp only[Buw]at b;generalize Cj T y (Cu (some z))=FB at *;have d2:=Bc c4;obtain⟨f0,f1⟩:=cl2 F7;obtain⟨y0,y1⟩:=cl2 Y7;obtain⟨z0,z1⟩:=cl2 Z7;simp at f0 f1 y0 y1 z0 z1;clear c4;cases FB with
       | false =>
        rw[Th rfl]at b;have HE:=Bc b;clear b;go_wp2_with fail;refine Qm (Ba d2) ?_;intro w8 l;have b8:=a5.trans (l.mono d1);go_wp2;go_ret;exact⟨by rw[<- Ba HE];rfl,b8⟩
       | true =>
        rw[Pk Hd]at b;have HE:=Bc b;clear b;go_wp2_with fail;refine Qm (Ba d2) ?_;intro w8 l;have b8:=a5.trans (l.mono d1);have F8:=stay l F7;have M8:=stay l M7;have Y8:=stay l Y7;have d8:=c3.below l;clear f0 f1 y0 y1 z0 z1 l;go_wp2
        go_meet
        case rel=>exact⟨b8,F8,M8,Y8,d8,HE⟩
   case rest=>
    obtain⟨a3,F5,M5,Y5,f8,HE⟩:=hcut;have c2:=a3.size;clear HA F4 M4 Y4 b7 a2 HJ HH HR f4;have b:=Ba HE;cases G with
    | false =>
     rw[Th rfl]at b;have HF:=Bc b;clear b HE;go_wp2_with fail;refine Qm (Ba HG _) ?_;intro w6 g;have a4:=a3.trans (g.mono c2);go_wp2;go_ret;exact⟨by rw[<- Ba HF];rfl,a4⟩
    | true =>
     rw[Pk Hd]at b;go_wp2_with fail;refine Qm (Ba HG _) ?_;intro w6 g;have a4:=a3.trans (g.mono c2);have F6:=stay g F5;have M6:=stay g M5;have Y6:=stay g Y5;have f9:=f8.below g;clear g F5 M5 Y5 f8 HE HG;obtain⟨Z,m1,m2,m3,m4,m5,m6,t,m8,m9,a0,a1⟩:=El M6;simp at Z m1 m2 m3 m4 m5 m6 t m8 m9 a0 a1;go_wp2_with fail;refine Qb (Ba g4 _) a4 ?_;intro w7 c5 a5;have F7:=stay c5 F6;have M7:=stay c5 M6;have Y7:=stay c5 Y6;have c3:=f9.below c5;have d1:=a5.size;clear c5 F6 M6 Y6 f9 Z m1 m2 m3 m4 m5 m6 t m8 m9 a0 a1 a4 a3 c2;obtain⟨Z,m1,m2,m3,m4,m5,m6,t,m8,m9,a0,a1⟩:=El M7;simp at Z m1 m2 m3 m4 m5 m6 t m8 m9 a0 a1;by_cases g0:(F.size:Int)<=(D:Int);·rw[Th g0]at b;have HF:=Bc b;clear b;go_wp2;go_ret;exact⟨by rw[<- Ba HF];rfl,a5⟩
     rw[Pk g0]at b;have i5:(D:Int)<(F.size:Int):=Ck;go_wp2_with fail;refine(Ba f2 (D:Int) _ a5).mono ?_;rintro e w8 ⟨u2,rfl,h5,l⟩;obtain⟨a6,a7,a8,a9,b0,b1⟩:=u2;have b8:=a5.trans (l.mono d1);have h6:=b8.size;have F8:=stay l F7;have Y8:=stay l Y7;have d8:=c3.below l;clear l F7 M7 Y7 c3 Z m1 m2 m3 m4 m5 m6 t m8 m9 a0 a1;have g1:=b8.alloc h6 (O21 a6 a7 a8 a9 b0 b1);have c4:=Ba f3 ⟨I,K,L,N,O,vc⟩ ⟨a6,a7,a8,a9,b0,b1⟩ _ _ _ g1 (d8.below (QN _)) (h5.below (QN _));generalize Cj T y (Cu (mp (D:Int)))=FB at *;generalize (mp (D:Int)).isSome=SB at *;have d2:=Bc c4;obtain⟨f0,f1⟩:=cl2 F8;obtain⟨y0,y1⟩:=cl2 Y8;have lF:=Sp F8;have lY:=Sp Y8;simp at f0 f1 y0 y1;have HF:=Bc b;clear c4 b;go_wp2_with fail;refine Qb (Ba d2) g1 ?_;intro w9 i6 h7;have b:=Ba HF;cases SB<;>cases FB<;>simp at b<;>(have h8:=Bc b;clear b HF;go_wp2;go_ret;exact⟨by rw[<- Ba h8];rfl,h7⟩)
 rw[Th h0]at b;have HA:=Bc b;have i7:(H != 0)=true:=by simpa using h0
 clear b h0;go_in;go_wp2_with fail;refine Qb (Ba HH _ b4) b4 ?_;intro w1 V Y;go_wp2;go_ret;exact⟨by rw[<- Ba HA];rfl,Y⟩
def Ap(mp:Nat->Option Bf)(b:Nat->Bf->Option Bf)(e:Nat->Bool)(c:TI)(q k p:Nat)(o:Option Bf)(h:q<p\/c.length<=p):Gu mp b e q (Cd.starts c k p) o=o:=by
 rcases h with h|h
 ·cases k with
  | zero=>rfl
  | succ j =>
   unfold Cd.starts
   split
   ·rw[Gu,Th h]
   rfl
 rw[Cd.starts_end h];rfl
def Bg1(f:RFv)(m:RMV)(q:Nat)(mp:Nat->Option Bf)(l:Nat->Bf->Option Bf)(B:Bf)(P:Bf->Prop)(w:TW)(hs:m.code.size<=100000)(hq:q<=100000) (d6:∀b,Bl w b->Calls prog 174 #[m.val] b fun e a3=>∃u:FrV,e=.returned u.val/\u.is B a3/\Bl b a3) (d7:∀(q:Nat) b,Bl w b->Calls prog 172 #[m.val,.i (q:Int)] b fun e a3=>∃u:FrV,e=.r (.tuple #[u.val,.bool (mp q).isSome])/\u.is (Cu (mp q)) a3/\Bl b a3) (d8:∀(q:Nat) (v:FrV) (x:Bf) b,Bl w b->q∈Cd.places (Ca m.code)->v.is x b->P x->Calls prog 227 #[f.val,m.val,.i (q:Int),v.val] b fun e a3=>∃u:FrV,e=.r (.tuple #[u.val,.bool (l q x).isSome])/\(∀y,l q x=some y->u.is y a3)/\Bl b a3) (g8:P B)(g9:∀q z,mp q=some z->P z)(h0:∀q x y,q∈Cd.places (Ca m.code)->P x->l q x=some y->P y):Calls prog 175 #[f.val,m.val,.i (q:Int)] w fun e b=>∃u:FrV, e=.r (.tuple #[u.val,.bool (Gu mp l (fun p=>Dl ((Ca m.code).getD p 0)) q (Cd.places (Ca m.code)) (some B)).isSome])/\(∀y,Gu mp l (fun p=>Dl ((Ca m.code).getD p 0)) q (Cd.places (Ca m.code)) (some B)=some y->u.is y b/\P y)/\Bl w b:=by
 have d9:=fun p b hp=>Lz m p b hp hs;have j0:=He m.code;have c7:=Kq m.code;generalize h2:(fun p=>Dl ((Ca m.code).getD p 0))=C;have f2:∀p (hp:p<m.code.size),C p=Dl (m.code[p].toNat:Int):=fun p hp=>by rw[<- h2];simp only;rw[c7 p hp]
 generalize hA:Gu mp l C q (Cd.places (Ca m.code)) (some B)=A;have hD:([]:List Nat)++Cd.starts (Ca m.code) (Ca m.code).length 0=Cd.places (Ca m.code):=rfl;have h3:Gu mp l C q (Cd.starts (Ca m.code) (Ca m.code).length 0) (some B)=A:=hA;generalize Ca m.code=c at *;obtain⟨c8,fl,c9,d0,fm,d1⟩:=f;obtain⟨cl,nm,pa,pl,pc,r1,r2,lo,st,O,ha,hl,hc,ma,ml,mc,c2,c3⟩:=m;simp only[RMV.val,RFv.val,FrV.val]at hs d6 d7 d8 d9 j0 c7 f2 ⊢;have h4:=Bc d6;have j1:=Bc d7;have j2:=Bc d8;have j3:=Bc d9;have j4:=Bc g9;have j5:=Bc h0;have j6:=Bc f2;have j7:=Bc c7;have HA:=Bc h3;have HD:=Bc hD;clear d6 d7 d8 d9 g9 h0 h2 hA h3 f2 c7 hD;have f3:=Em w (O11 c8 fl c9 d0 fm d1) (O12 cl nm pa pl pc r1 r2 lo st O ha hl hc ma ml mc c2 c3) (O21 none 0 0 none 0 0);obtain⟨F0,M0,Z0⟩:=Nz w (O11 c8 fl c9 d0 fm d1) (O12 cl nm pa pl pc r1 r2 lo st O ha hl hc ma ml mc c2 c3) (O21 none 0 0 none 0 0);go_in;go_wp2_with fail;refine(Ba h4 _ f3).mono ?_;rintro e w1 ⟨u,rfl,Q,a7⟩;obtain⟨I,J,K,L,N,vc⟩:=u;have f4:=QB f3 a7;have h5:=f4.size;have F1:=Bg (stay a7 F0) (O21 I J K L N vc);have M1:=Bg (stay a7 M0) (O21 I J K L N vc);have Z1:=Bg (stay a7 Z0) (O21 I J K L N vc);have Y1:=Be w1 (O21 I J K L N vc);have a6:=f4.alloc h5 (O21 I J K L N vc);have c4:=Q.below (QN (O21 I J K L N vc));have l4:=Sp (stay a7 Z0);clear a7 Q F0 M0 Z0;go_wp2
 go_loopw [9,10] (fun s9 j8 wr=>∃(p k:Nat) (o:Option Bf) (d:List Nat) (u:FrV),s9=.bool o.isSome/\j8=.i (p:Int)/\p<=200000/\c.length<=p+k/\Hid (d++Cd.starts c k p=Cd.places c)/\Hid (Gu mp l C q (Cd.starts c k p) o=A) /\
   wr.heap[w1.heap.size]?=some (O21 u.la u.ln u.lc u.sa u.sn u.sc)/\(∀x,o=some x->u.is x wr/\P x) /\
   Bl w wr/\wr.heap[w.heap.size]?=some (O11 c8 fl c9 d0 fm d1)/\wr.heap[w.heap.size+1]?=some (O12 cl nm pa pl pc r1 r2 lo st O ha hl hc ma ml mc c2 c3)/\wr.heap[w.heap.size+1+1]?=some (O21 none 0 0 none 0 0))
  (fun _ v _=>c.length-(intOf v).toNat)
 case atStart=>
  exact⟨0,c.length,some B,[],⟨I,J,K,L,N,vc⟩,rfl,rfl,Ck,Ck,HD,HA,Y1,fun x D=>by obtain rfl:=Option.some.inj D;exact⟨c4,g8⟩,a6,F1,M1,Z1⟩
 case round=>
  clear HA HD F1 M1 Z1 Y1 a6 c4 f4 h5 f3 h4 g8;obtain⟨p,k,o,d,u,rfl,rfl,l5,hk,HD,HA,Y,Q,hB,F,M,Z⟩:=hrel;obtain⟨I,J,K,L,N,vc⟩:=u;simp only at Y;have j9:=hB.size;by_cases k0:p<=q/\p<c.length
  ·have l6:(p:Int)<=(q:Int):=Ck;have f5:p<O.size:=Ck;have l7:(p:Int)<(O.size:Int):=Ck;obtain⟨j,rfl,hj,h6⟩:=Cd.starts_go (c:=c) (k:=k) (p:=p) k0.2 hk;have hd:=Ba HD;have t:=Ba HA;rw[h6]at t hd;have h7:p∈Cd.places c:=by rw[<- hd];simp
   have l8:=Cd.wd_bd (c.getD p 0);have f6:Hid ((d++[p])++Cd.starts c j (p+Cd.wd (c.getD p 0))=Cd.places c):=by unfold Hid;rw[<- hd];simp
   have h8:=fun b=>Ba j3 p b f5;have h9:=Ba j6 p f5;have k1:=Ba j7 p f5;have l9:IntKind.i64.wrap ((O[p].toNat:Nat):Int)=((O[p].toNat:Nat):Int):=Cx _ Ck (by have:=O[p].toNat_lt;omega);have f7:=fun b=>Bat (O[p].toNat:Int) b;rw[<- h9]at f7;have i0:=Ap mp l C c q j (p+Cd.wd (c.getD p 0));generalize Cd.wd (c.getD p 0)=a8 at *;rw[Gu,Pk Ck]at t;have f8:=Bc h8;have HG:=Bc f7;have k2:=Ba j4 p;have i1:=fun b h=>Ba j1 p b h;have a4:J0 mp l C p o=((mp p).or o).bind fun x=>(l p x).bind fun z=>if C p=true then some z else none:=rfl
   obtain⟨V,m1,m2,m3,m4,m5,m6,G,m8,m9,a0,a1⟩:=El M;simp at V m1 m2 m3 m4 m5 m6 G m8 m9 a0 a1;generalize mp p=d2 at *;have k3:=Bc i1;have HR:=Bc t;have d3:=Bc a4;have d4:=Bc i0;clear h8 f7 i1 t hd h6 HD HA h9 k1 a4 i0;go_wp2_with fail;refine(Ba k3 _ hB).mono ?_;rintro e w2 ⟨u2,rfl,c4,a2⟩;obtain⟨a9,b0,b1,b2,b3,b4⟩:=u2;have a6:=hB.trans (a2.mono j9);have i2:=a6.size;have F2:=Bg (stay a2 F) (O21 a9 b0 b1 b2 b3 b4);have M2:=Bg (stay a2 M) (O21 a9 b0 b1 b2 b3 b4);have Z2:=Bg (stay a2 Z) (O21 a9 b0 b1 b2 b3 b4);have X2:=stay a2 Y;have X3:=Bg X2 (O21 a9 b0 b1 b2 b3 b4);have i3:=a6.alloc i2 (O21 a9 b0 b1 b2 b3 b4);clear V m1 m2 m3 m4 m5 m6 G m8 m9 a0 a1;obtain⟨B,x1⟩:=cl2 X2;obtain⟨p0,p1⟩:=fr2 X2;have lX:=Sp X2;simp at B x1
   go_upto_if 37 with fail
   go_cut [9] from 18 to 64 (fun s9 wx=>∃u':FrV,s9=.bool (d2.or o).isSome/\wx.heap[w1.heap.size]?=some (O21 u'.la u'.ln u'.lc u'.sa u'.sn u'.sc)/\(∀x,d2.or o=some x->u'.is x wx/\P x) /\
    Bl w wx/\wx.heap[w.heap.size]?=some (O11 c8 fl c9 d0 fm d1)/\wx.heap[w.heap.size+1]?=some (O12 cl nm pa pl pc r1 r2 lo st O ha hl hc ma ml mc c2 c3)/\wx.heap[w.heap.size+1+1]?=some (O21 none 0 0 none 0 0))
   case first=>
    cases d2 with
    | none =>
     go_wp2
     go_meet
     case rel=>exact⟨⟨I,J,K,L,N,vc⟩,rfl,X3,fun x D=>⟨((Q x D).1.below a2).below (QN _),(Q x D).2⟩,i3,F2,M2,Z2⟩
    | some z =>
     have k4:=k2 z rfl;go_wp2
     go_meet
     case rel=>exact⟨⟨a9,b0,b1,b2,b3,b4⟩,rfl,Bg (Pu X2 _ _) _,fun x D=>by obtain rfl:=Option.some.inj D;exact⟨(c4.set2 X2 _ _).below (QN _),k4⟩,((a6.setCell Fr _).setCell Fr _).alloc Fr _,Bg ((Hx Ck).trans (stay a2 F)) _,Bg ((Hx Ck).trans (stay a2 M)) _,Bg ((Hx Ck).trans (stay a2 Z)) _⟩
   case rest=>
    obtain⟨u3,rfl,X4,d5,c5,F4,M4,Z4⟩:=hcut;obtain⟨f9,g0,g1,g2,g3,g4⟩:=u3;simp only at X4;have g5:=c5.size;clear F2 M2 Z2 X2 X3 i3 B x1 p0 p1 lX c4 Q a2 a6 i2 Y F M Z;have t:=Ba HR;have a4:=Ba d3;generalize d2.or o=o1 at *;obtain⟨V,m1,m2,m3,m4,m5,m6,G,m8,m9,a0,a1⟩:=El M4;simp at V m1 m2 m3 m4 m5 m6 G m8 m9 a0 a1;by_cases he:p=q
    ·rw[Th he]at t;have hz:=Ba d4 o1 Ck;have g6:Hid (Gu mp l C q (Cd.starts c j (p+a8)) o1=A):=by unfold Hid;rw[hz,t]
     have k5:((p:Int)==(q:Int))=true:=Fr;clear t hz a4 d3 HR d4 he;go_wp2_with fail;refine Qm (Ba f8 _) ?_;intro w5 g;have b5:=c5.trans (g.mono g5);clear V m1 m2 m3 m4 m5 m6 G m8 m9 a0 a1;go_wp2;go_roundw
     case rel=>exact⟨p+a8,j,o1,d++[p],⟨f9,g0,g1,g2,g3,g4⟩,rfl,rfl,Ck,Ck,f6,g6,stay g X4,fun x D=>⟨(d5 x D).1.below g,(d5 x D).2⟩,b5,stay g F4,stay g M4,stay g Z4⟩
     case measure=>simp[intOf];omega
    rw[Pk he]at t;have k5:((p:Int)==(q:Int))=false:=Fr;clear he;cases o1 with
    | none =>
     have g6:Hid (Gu mp l C q (Cd.starts c j (p+a8)) none=A):=by unfold Hid;rw[<- t,a4];rfl
     clear t a4 d3 HR d4;go_wp2_with fail;refine Qm (Ba f8 _) ?_;intro w5 g;have b5:=c5.trans (g.mono g5);clear V m1 m2 m3 m4 m5 m6 G m8 m9 a0 a1;go_wp2;go_roundw
     case rel=>exact⟨p+a8,j,none,d++[p],⟨f9,g0,g1,g2,g3,g4⟩,rfl,rfl,Ck,Ck,f6,g6,stay g X4,fun x D=>(by cases D),b5,stay g F4,stay g M4,stay g Z4⟩
     case measure=>simp[intOf];omega
    | some x =>
     obtain⟨k6,i4⟩:=d5 x rfl;have g7:=fun b h hv=>Ba j2 p ⟨f9,g0,g1,g2,g3,g4⟩ x b h h7 hv i4;have k7:=fun y=>Ba j5 p x y h7 i4;have i5:J0 mp l C p o=(l p x).bind fun z=>if C p=true then some z else none:=a4
     rw[i5]at t;simp only at g7;generalize l p x=RX at *;have i6:=Bc t;have k8:=Bc g7;clear t a4 d3 HR d4 i5 g7 d5;obtain⟨B,x1⟩:=cl2 X4;obtain⟨f0,f1⟩:=cl2 F4;simp at B x1 f0 f1;go_wp2_with fail;refine(Ba k8 _ c5 k6).mono ?_;rintro e w5 ⟨u5,rfl,i7,g⟩;obtain⟨b6,b7,b8,b9,c0,c1⟩:=u5;have b5:=c5.trans (g.mono g5);have k9:=b5.size;have F5:=stay g F4;have M5:=stay g M4;have Z5:=stay g Z4;have X5:=stay g X4;clear V m1 m2 m3 m4 m5 m6 G m8 m9 a0 a1 B x1 f0 f1 g F4 M4 Z4 X4;have G:=Bb M5 7;have lM:=Sp M5;simp at G;go_wp2_with fail;refine Qm (Ba HG _) ?_;intro w6 a5;have i8:=(b5.alloc k9 (O21 b6 b7 b8 b9 c0 c1)).trans (a5.mono Fr);have n0:=i8.size;have F6:=stay a5 (Bg F5 _);have M6:=stay a5 (Bg M5 _);have Z6:=stay a5 (Bg Z5 _);have X6:=stay a5 (Bg X5 _);have T6:=stay a5 (Be w5 (O21 b6 b7 b8 b9 c0 c1));have i9:∀y,RX=some y->FrV.is ⟨b6,b7,b8,b9,c0,c1⟩ y w6/\P y:=fun y hy=>⟨((i7 y hy).below (QN _)).below a5,k7 y hy⟩;obtain⟨t0,t1⟩:=cl2 T6;obtain⟨B,x1⟩:=cl2 X6;obtain⟨p0,p1⟩:=fr2 X6;have lx:=Sp X6;have n1:=Sp X5;simp at t0 t1 B x1;have M7:((w6.setCell (.a w1.heap.size 0) (.s b6 b7 b8)).setCell (.a w1.heap.size 1) (.s b9 c0 c1)).heap[w.heap.size+1]?=some (O12 cl nm pa pl pc r1 r2 lo st O ha hl hc ma ml mc c2 c3):=(Hx Ck).trans M6;have l0:=(i8.setCell (p:=.a w1.heap.size 0) Fr (.s b6 b7 b8)).setCell (p:=.a w1.heap.size 1) Fr (.s b9 c0 c1);clear G lM F5 M5 Z5 X5 a5 i7;obtain⟨V,m1,m2,m3,m4,m5,m6,G,m8,m9,a0,a1⟩:=El M7;simp at V m1 m2 m3 m4 m5 m6 G m8 m9 a0 a1;have l1:Hid (Gu mp l C q (Cd.starts c j (p+a8)) (if RX.isSome&&C p then RX else none)=A):=by
      unfold Hid;rw[<- Ba i6];cases RX<;>cases C p<;>rfl
     clear i6;generalize C p=gp at *;cases RX<;>cases gp
     all_goals
      go_wp2_with fail;refine Qb (Ba f8 _) l0 ?_;intro w8 c6 l2;clear V m1 m2 m3 m4 m5 m6 G m8 m9 a0 a1 t0 t1 B x1;go_wp2;go_roundw
      case rel=>exact⟨p+a8,j,_,d++[p],⟨b6,b7,b8,b9,c0,c1⟩,rfl,rfl,Ck,Ck,f6,l1,stay c6 (Pu X6 _ _),fun x D=>(by first|exact⟨((i9 x D).1.set2 X6 _ _).below c6,(i9 x D).2⟩ | cases D),l2,stay c6 ((Hx Ck).trans F6),stay c6 M7,stay c6 ((Hx Ck).trans Z6)⟩
      case measure=>simp[intOf];omega
  have t:=Ba HA;rw[Ap mp l C c q k p o Ck]at t;subst t;obtain⟨z0,z1⟩:=cl2 Z;obtain⟨q0,q1⟩:=fr2 Z;obtain⟨y0,y1⟩:=cl2 Y;have G:=Bb M 7;have lZ:=Sp Z;simp at z0 z1 y0 y1 G;clear HA HD;by_cases h1:p<=q;·have l3:(p:Int)<=(q:Int):=Ck;have n2:¬(p:Int)<(O.size:Int):=Ck;go_wp2;refine tb (.tuple #[.agg #[.s I J K,.s L N vc],.bool o.isSome]) (by simp[results,results175,go_sem,z0,z1]) ?_;exact⟨⟨I,J,K,L,N,vc⟩,rfl,fun y hy=>⟨(Q y hy).1.set2 Z _ _,(Q y hy).2⟩,(hB.setCell Fr _).setCell Fr _⟩
  have l3:¬(p:Int)<=(q:Int):=Ck;go_wp2;refine tb (.tuple #[.agg #[.s I J K,.s L N vc],.bool o.isSome]) (by simp[results,results175,go_sem,z0,z1]) ?_;exact⟨⟨I,J,K,L,N,vc⟩,rfl,fun y hy=>⟨(Q y hy).1.set2 Z _ _,(Q y hy).2⟩,(hB.setCell Fr _).setCell Fr _⟩
end Go.Proofs.YtpcgnjolfahacaaGreat
